import PyProof.Rows.All
import Wide.All
import OpenK.AllK
import Wide.FinOn
import PyProof.EqAt
import PyProof.EqKinds
import PyProof.TupleCall
import Open.SpecLaws
import KE.OsGo
import HandS.ForSpec
import HandS.Comp
import HandS.Dict
import HandS.Iter
import HandS.Conv
import HandS.More
import HandS.ExcInit
import HandS.ExcField
import HandS.Small
import HandS.TryMany
import HandS.WordsDict
import PyYqfhba
import HandS.ExcInitHot
import HandS.Lambda
import PySem.Challenge.RW_segmentrules_s06_segs
import KE.KAsSuite
import HandS.Flow
import HandS.WideBits
import HandS.Text
import HandS.Walk
import KE.OsArith
import KE.GoesEnumKw
import FbSpec
import KE.KDictKeyed
import KE.KeyNested
import HandS.TupLen
import HandS.SetKeys
import HandS.Spec
import KE.KNestM
/-! SgMath -/
set_option Elab.async false
set_option maxRecDepth 100000
set_option maxHeartbeats 2000000
namespace Sg
open Fh
/-- the next byte; 256 at the end -/
def lk : Bytes → Nat
  | [] => 256
  | c :: _ => c.toNat
/-! ### characters -/
def secLo (c : Nat) : Nat := if c = 224 then 160 else if c = 240 then 144 else 128
def secHi (c : Nat) : Nat := if c = 237 then 159 else if c = 244 then 143 else 191
def firstN (c : Nat) : Nat := if c < 128 then 0 else if 194 ≤ c ∧ c ≤ 223 then 1 else if 224 ≤ c ∧ c ≤ 239 then 2 else if 240 ≤ c ∧ c ≤ 244 then 3 else 0
def firstV (c : Nat) : Nat := if c < 128 then c else if 194 ≤ c ∧ c ≤ 223 then c - 192 else if 224 ≤ c ∧ c ≤ 239 then c - 224 else if 240 ≤ c ∧ c ≤ 244 then c - 240 else 0
def isCh (n : Nat) : Bool := decide (32 ≤ n) && (decide (n ≤ 1114111) && (!(decide (127 ≤ n) && decide (n ≤ 159)) && (!(decide (55296 ≤ n) && decide (n ≤ 57343)) && decide (n % 65536 < 65534))))
def cont : Nat → Nat → Nat → Nat → Nat → Bytes → Except Nat Nat
  | 0, k, _, _, v, _ => if isCh v = true then .ok v else .error k
  | f + 1, k, lo, hi, v, b => if lk b < lo ∨ hi < lk b then .error (k + 1) else cont f (k + 1) 128 191 (v * 64 + lk b - 128) (b.drop 1)
def takeCh (b : Bytes) : Except Nat Nat := cont (firstN (lk b)) 0 (secLo (lk b)) (secHi (lk b)) (firstV (lk b)) (b.drop 1)

theorem isCh_iff (n : Nat) : isCh n = true ↔ 32 ≤ n ∧ n ≤ 1114111 ∧ ¬ (127 ≤ n ∧ n ≤ 159) ∧ ¬ (55296 ≤ n ∧ n ≤ 57343) ∧ n % 65536 < 65534 := by
  unfold isCh
  simp only [Bool.and_eq_true, decide_eq_true_eq, Bool.not_eq_true', Bool.and_eq_false_iff, decide_eq_false_iff_not]
  omega
theorem nextChar_eq (c : Nat) (h : isCh c = true) : nextChar c = c := by
  rw [isCh_iff] at h
  unfold nextChar
  rw [if_neg (by omega), if_neg (by omega), if_neg (by omega), if_neg (by omega)]
theorem nextChar_ne (c : Nat) (h : c ≤ 1114111) (h2 : ¬ isCh c = true) : c < nextChar c := by
  rw [isCh_iff] at h2
  unfold nextChar
  split
  · omega
  · split
    · omega
    · split
      · omega
      · split
        · omega
        · omega
theorem mayBe_end (n v : Nat) : mayBe n n v = true ↔ leastOf n ≤ v ∧ v ≤ mostOf n ∧ isCh v = true := by
  have hm : mostOf n ≤ 1114111 := by
    unfold mostOf
    split
    · omega
    · split
      · omega
      · split <;> omega
  unfold mayBe
  rw [decide_eq_true_eq, Nat.sub_self, Nat.pow_zero, Nat.mul_one, Nat.sub_self, Nat.add_zero]
  constructor
  · intro h
    have h3 : ∀ c, c ≤ 1114111 → c ≤ nextChar c := fun c hc => by
      by_cases q : isCh c = true
      · rw [nextChar_eq c q]; omega
      · exact Nat.le_of_lt (nextChar_ne c hc q)
    have h4 : max v (leastOf n) ≤ 1114111 := by
      by_cases z : max v (leastOf n) ≤ 1114111
      · exact z
      · exfalso
        have z2 : 1114111 < max v (leastOf n) := by omega
        -- nextChar of a number beyond is no less than 65536 of it
        have : 1114111 < nextChar (max v (leastOf n)) := by
          unfold nextChar
          rw [if_neg (by omega), if_neg (by omega), if_neg (by omega)]
          split <;> omega
        omega
    have h5 := h3 _ h4
    have h6 : leastOf n ≤ v := by omega
    have e : max v (leastOf n) = v := by omega
    rw [e] at h h5 h4
    refine ⟨h6, by omega, ?_⟩
    by_cases q : isCh v = true
    · exact q
    · have := nextChar_ne v h4 q
      omega
  · rintro ⟨h1, h2, h3⟩
    have e : max v (leastOf n) = v := by omega
    have e2 : min v (mostOf n) = v := by omega
    rw [e, e2, nextChar_eq v h3]
    exact Nat.le_refl _
theorem tab1 : ∀ c : Fin 256, (c.val < 128 → lengthBy c = 1) ∧ (128 ≤ c.val ∧ c.val < 194 → lengthBy c = 0 ∨ mayBe (lengthBy c) 1 (headOf (lengthBy c) c) = false) ∧
    (194 ≤ c.val ∧ c.val ≤ 223 → lengthBy c = 2 ∧ mayBe 2 1 (headOf 2 c) = true ∧ headOf 2 c = c - 192) ∧ (224 ≤ c.val ∧ c.val ≤ 239 → lengthBy c = 3 ∧ mayBe 3 1 (headOf 3 c) = true ∧ headOf 3 c = c - 224) ∧
    (240 ≤ c.val ∧ c.val ≤ 244 → lengthBy c = 4 ∧ mayBe 4 1 (headOf 4 c) = true ∧ headOf 4 c = c - 240) ∧ (245 ≤ c.val → lengthBy c = 0 ∨ mayBe (lengthBy c) 1 (headOf (lengthBy c) c) = false) := by decide +kernel
theorem tab3 : ∀ c : Fin 16, ∀ d : Fin 64, mayBe 3 2 (c * 64 + d) = (decide (secLo (224 + c) ≤ 128 + d) && decide (128 + d ≤ secHi (224 + c))) := by decide +kernel
theorem tab4 : ∀ c : Fin 5, ∀ d : Fin 64, mayBe 4 2 (c * 64 + d) = (decide (secLo (240 + c) ≤ 128 + d) && decide (128 + d ≤ secHi (240 + c))) := by decide +kernel
theorem mayBe43 (v : Nat) (h1 : 1024 ≤ v) (h2 : v < 17408) : mayBe 4 3 v = true := by
  unfold mayBe leastOf mostOf
  simp only [Nat.reduceSub, Nat.pow_one, Nat.reduceEqDiff, if_false]
  rw [decide_eq_true_eq]
  have e : max (v * 64) 65536 = v * 64 := by omega
  have e2 : nextChar (v * 64) = v * 64 := by
    unfold nextChar
    rw [if_neg (by omega), if_neg (by omega), if_neg (by omega), if_neg (by omega)]
  rw [e, e2]
  omega
theorem u8lt (c : UInt8) : c.toNat < 256 := c.toNat_lt
end Sg

/-! SgMath2 -/
set_option Elab.async false
set_option maxRecDepth 100000
set_option maxHeartbeats 2000000
namespace Sg
open Fh
theorem tab1u (c : UInt8) : (c.toNat < 128 → lengthBy c.toNat = 1) ∧ (128 ≤ c.toNat ∧ c.toNat < 194 → lengthBy c.toNat = 0 ∨ mayBe (lengthBy c.toNat) 1 (headOf (lengthBy c.toNat) c.toNat) = false) ∧
    (194 ≤ c.toNat ∧ c.toNat ≤ 223 → lengthBy c.toNat = 2 ∧ mayBe 2 1 (headOf 2 c.toNat) = true ∧ headOf 2 c.toNat = c.toNat - 192) ∧ (224 ≤ c.toNat ∧ c.toNat ≤ 239 → lengthBy c.toNat = 3 ∧ mayBe 3 1 (headOf 3 c.toNat) = true ∧ headOf 3 c.toNat = c.toNat - 224) ∧
    (240 ≤ c.toNat ∧ c.toNat ≤ 244 → lengthBy c.toNat = 4 ∧ mayBe 4 1 (headOf 4 c.toNat) = true ∧ headOf 4 c.toNat = c.toNat - 240) ∧ (245 ≤ c.toNat → lengthBy c.toNat = 0 ∨ mayBe (lengthBy c.toNat) 1 (headOf (lengthBy c.toNat) c.toNat) = false) :=
  tab1 ⟨c.toNat, c.toNat_lt⟩
theorem cont_bad (f k lo hi v : Nat) (b : Bytes) (h : lk b < lo ∨ hi < lk b) : cont (f + 1) k lo hi v b = .error (k + 1) := by
  rw [cont, if_pos h]
theorem charHere_cons (c : UInt8) (r : Bytes) : charHere (c :: r) = if lengthBy c.toNat = 0 ∨ mayBe (lengthBy c.toNat) 1 (headOf (lengthBy c.toNat) c.toNat) = false then .error 0
    else match goOn 4 (lengthBy c.toNat) 1 (headOf (lengthBy c.toNat) c.toNat) r with
      | .ok v => .ok (v, lengthBy c.toNat)
      | .error k => .error k := rfl
theorem goOn_done (f n v : Nat) (b : Bytes) : goOn (f + 1) n n v b = .ok v := by
  unfold goOn
  rw [if_pos rfl]
theorem goOn_nil (f n k v : Nat) (h : k ≠ n) : goOn (f + 1) n k v [] = .error k := by
  unfold goOn
  rw [if_neg h]
theorem goOn_cons (f n k v : Nat) (c : UInt8) (r : Bytes) (h : k ≠ n) : goOn (f + 1) n k v (c :: r) = if c.toNat / 64 = 2 ∧ mayBe n (k + 1) (v * 64 + c.toNat % 64) = true then goOn f n (k + 1) (v * 64 + c.toNat % 64) r else .error k := by
  rw [goOn, if_neg h]
/-- the last byte of n -/
theorem goOn_last (f k v : Nat) (b : Bytes) (hle : ∀ x, x < 64 → isCh (v * 64 + x) = true → leastOf (k + 2) ≤ v * 64 + x ∧ v * 64 + x ≤ mostOf (k + 2)) :
    goOn (f + 2) (k + 2) (k + 1) v b = cont 1 k 128 191 v b := by
  match b with
  | [] =>
    rw [goOn_nil _ _ _ _ (by omega)]
    exact (cont_bad _ _ _ _ _ _ (.inr (by decide))).symm
  | c :: r =>
    rw [goOn_cons _ _ _ _ _ _ (by omega)]
    show _ = if c.toNat < 128 ∨ 191 < c.toNat then Except.error (k + 1) else (if isCh (v * 64 + c.toNat - 128) = true then Except.ok (v * 64 + c.toNat - 128) else Except.error (k + 1))
    by_cases h1 : c.toNat / 64 = 2
    · rw [if_neg (show ¬ (c.toNat < 128 ∨ 191 < c.toNat) by omega)]
      have e : v * 64 + c.toNat - 128 = v * 64 + c.toNat % 64 := by omega
      rw [e]
      by_cases h2 : isCh (v * 64 + c.toNat % 64) = true
      · obtain ⟨a, b⟩ := hle _ (Nat.mod_lt _ (by omega)) h2
        rw [if_pos ⟨h1, (mayBe_end _ _).mpr ⟨a, b, h2⟩⟩, if_pos h2, goOn_done]
      · rw [if_neg (fun z => h2 ((mayBe_end _ _).mp z.2).2.2), if_neg h2]
    · rw [if_neg (fun z => h1 z.1), if_pos (by omega)]
/-- a byte ahead of the last -/
theorem goOn_mid (f n k v lo hi m : Nat) (b : Bytes) (hn : k + 1 ≠ n) (hb : ∀ c : Nat, c < 256 → ((c / 64 = 2 ∧ mayBe n (k + 2) (v * 64 + c % 64) = true) ↔ lo ≤ c ∧ c ≤ hi)) (h128 : 128 ≤ lo) (h191 : hi ≤ 191)
    (hr : ∀ c : Nat, lo ≤ c → c ≤ hi → ∀ r, goOn f n (k + 2) (v * 64 + c - 128) r = cont m (k + 1) 128 191 (v * 64 + c - 128) r) : goOn (f + 1) n (k + 1) v b = cont (m + 1) k lo hi v b := by
  match b with
  | [] =>
    rw [goOn_nil _ _ _ _ hn]
    exact (cont_bad _ _ _ _ _ _ (.inr (by show hi < 256; omega))).symm
  | c :: r =>
    rw [goOn_cons _ _ _ _ _ _ hn]
    show _ = if c.toNat < lo ∨ hi < c.toNat then Except.error (k + 1) else cont m (k + 1) 128 191 (v * 64 + c.toNat - 128) r
    have z := hb c.toNat c.toNat_lt
    by_cases h : lo ≤ c.toNat ∧ c.toNat ≤ hi
    · rw [if_pos (z.mpr h), if_neg (by omega), ← hr _ h.1 h.2]
      have e : v * 64 + c.toNat % 64 = v * 64 + c.toNat - 128 := by omega
      rw [e]
    · rw [if_neg (fun q => h (z.mp q)), if_pos (by omega)]
theorem lenB (k : Nat) : leastOf (k + 4) = 65536 ∧ mostOf (k + 4) = 1114111 := by
  unfold leastOf mostOf
  rw [if_neg (by omega), if_neg (by omega), if_neg (by omega), if_neg (by omega), if_neg (by omega), if_neg (by omega)]
  exact ⟨rfl, rfl⟩
theorem len2 : leastOf 2 = 128 ∧ mostOf 2 = 2047 := by decide
theorem len3 : leastOf 3 = 2048 ∧ mostOf 3 = 65535 := by decide
/-- what take_character does is the specification's -/
def chRes (b : Bytes) : Except Nat (Nat × Nat) := match takeCh b with
  | .ok v => .ok (v, firstN (lk b) + 1)
  | .error k => .error k
theorem charHere_is (b : Bytes) : charHere b = chRes b := by
  match b with
  | [] => rfl
  | c :: r =>
    obtain ⟨t1, t2, t3, t4, t5, t6⟩ := tab1u c
    have hc := c.toNat_lt
    have hl : lk (c :: r) = c.toNat := rfl
    rw [charHere_cons]
    unfold chRes takeCh
    rw [hl]
    show _ = match cont (firstN c.toNat) 0 (secLo c.toNat) (secHi c.toNat) (firstV c.toNat) r with | .ok v => Except.ok (v, firstN c.toNat + 1) | .error k => Except.error k
    by_cases a1 : c.toNat < 128
    · have e1 : firstN c.toNat = 0 := by unfold firstN; rw [if_pos a1]
      have e2 : firstV c.toNat = c.toNat := by unfold firstV; rw [if_pos a1]
      rw [t1 a1, e1, e2]
      show (if (1 : Nat) = 0 ∨ mayBe 1 1 c.toNat = false then Except.error 0 else match goOn 4 1 1 c.toNat r with | .ok v => Except.ok (v, 1) | .error k => Except.error k) = match (if isCh c.toNat = true then Except.ok c.toNat else Except.error 0) with | .ok v => Except.ok (v, 0 + 1) | .error k => Except.error k
      by_cases h : isCh c.toNat = true
      · have hm : mayBe 1 1 c.toNat = true := (mayBe_end 1 _).mpr ⟨Nat.zero_le _, by show c.toNat ≤ 127; omega, h⟩
        rw [if_neg (by rw [hm]; simp), if_pos h, goOn_done]
      · have hm : mayBe 1 1 c.toNat = false := by
          cases q : mayBe 1 1 c.toNat with
          | false => rfl
          | true => exact absurd ((mayBe_end 1 _).mp q).2.2 h
        rw [if_pos (.inr hm), if_neg h]
    by_cases a2 : c.toNat < 194
    · have e1 : firstN c.toNat = 0 := by
        unfold firstN
        rw [if_neg a1, if_neg (by omega), if_neg (by omega), if_neg (by omega)]
      have e2 : firstV c.toNat = 0 := by
        unfold firstV
        rw [if_neg a1, if_neg (by omega), if_neg (by omega), if_neg (by omega)]
      rw [if_pos (t2 ⟨by omega, a2⟩), e1, e2]
      rfl
    by_cases a3 : c.toNat ≤ 223
    · have e1 : firstN c.toNat = 1 := by unfold firstN; rw [if_neg a1, if_pos ⟨by omega, a3⟩]
      have e2 : firstV c.toNat = c.toNat - 192 := by unfold firstV; rw [if_neg a1, if_pos ⟨by omega, a3⟩]
      have e3 : secLo c.toNat = 128 := by unfold secLo; rw [if_neg (by omega), if_neg (by omega)]
      have e4 : secHi c.toNat = 191 := by unfold secHi; rw [if_neg (by omega), if_neg (by omega)]
      obtain ⟨b1, b2, b3⟩ := t3 ⟨by omega, a3⟩
      rw [b1, b2, e1, e2, e3, e4, b3, if_neg (by simp), goOn_last 2 0 _ r (fun x hx _ => by rw [len2.1, len2.2]; omega)]
    by_cases a4 : c.toNat ≤ 239
    · have e1 : firstN c.toNat = 2 := by unfold firstN; rw [if_neg a1, if_neg (by omega), if_pos ⟨by omega, a4⟩]
      have e2 : firstV c.toNat = c.toNat - 224 := by unfold firstV; rw [if_neg a1, if_neg (by omega), if_pos ⟨by omega, a4⟩]
      obtain ⟨b1, b2, b3⟩ := t4 ⟨by omega, a4⟩
      have l1 : 128 ≤ secLo c.toNat := by unfold secLo; split <;> (try split) <;> omega
      have l2 : secHi c.toNat ≤ 191 := by unfold secHi; split <;> (try split) <;> omega
      have l3 : c.toNat = 224 → secLo c.toNat = 160 := fun z => by unfold secLo; rw [if_pos z]
      rw [b1, b2, e1, e2, b3, if_neg (by simp), goOn_mid 3 3 0 _ (secLo c.toNat) (secHi c.toNat) 1 r (by omega) (fun d hd => ?_) l1 l2 (fun d h1 h2 q => ?_)]
      · have z := tab3 ⟨c.toNat - 224, by omega⟩ ⟨d % 64, Nat.mod_lt _ (by omega)⟩
        have z1 : mayBe 3 2 ((c.toNat - 224) * 64 + d % 64) = (decide (secLo (224 + (c.toNat - 224)) ≤ 128 + d % 64) && decide (128 + d % 64 ≤ secHi (224 + (c.toNat - 224)))) := z
        rw [show 224 + (c.toNat - 224) = c.toNat by omega] at z1
        rw [z1, Bool.and_eq_true, decide_eq_true_eq, decide_eq_true_eq]
        omega
      · refine goOn_last 1 1 _ q (fun x hx _ => ?_)
        rw [len3.1, len3.2]
        by_cases z : c.toNat = 224
        · have := l3 z; omega
        · omega
    by_cases a5 : c.toNat ≤ 244
    · have e1 : firstN c.toNat = 3 := by unfold firstN; rw [if_neg a1, if_neg (by omega), if_neg (by omega), if_pos ⟨by omega, a5⟩]
      have e2 : firstV c.toNat = c.toNat - 240 := by unfold firstV; rw [if_neg a1, if_neg (by omega), if_neg (by omega), if_pos ⟨by omega, a5⟩]
      obtain ⟨b1, b2, b3⟩ := t5 ⟨by omega, a5⟩
      have l1 : 128 ≤ secLo c.toNat := by unfold secLo; split <;> (try split) <;> omega
      have l2 : secHi c.toNat ≤ 191 := by unfold secHi; split <;> (try split) <;> omega
      have l3 : c.toNat = 240 → secLo c.toNat = 144 := fun z => by unfold secLo; rw [if_neg (by omega), if_pos z]
      have l4 : c.toNat = 244 → secHi c.toNat = 143 := fun z => by unfold secHi; rw [if_neg (by omega), if_pos z]
      rw [b1, b2, e1, e2, b3, if_neg (by simp), goOn_mid 3 4 0 _ (secLo c.toNat) (secHi c.toNat) 2 r (by omega) (fun d hd => ?_) l1 l2 (fun d h1 h2 q => ?_)]
      · have z := tab4 ⟨c.toNat - 240, by omega⟩ ⟨d % 64, Nat.mod_lt _ (by omega)⟩
        have z1 : mayBe 4 2 ((c.toNat - 240) * 64 + d % 64) = (decide (secLo (240 + (c.toNat - 240)) ≤ 128 + d % 64) && decide (128 + d % 64 ≤ secHi (240 + (c.toNat - 240)))) := z
        rw [show 240 + (c.toNat - 240) = c.toNat by omega] at z1
        rw [z1, Bool.and_eq_true, decide_eq_true_eq, decide_eq_true_eq]
        omega
      · have w1 : 16 ≤ (c.toNat - 240) * 64 + d - 128 := by
          by_cases z : c.toNat = 240
          · have := l3 z; omega
          · omega
        have w2 : (c.toNat - 240) * 64 + d - 128 < 272 := by
          by_cases z : c.toNat = 244
          · have := l4 z; omega
          · omega
        generalize (c.toNat - 240) * 64 + d - 128 = u at w1 w2
        refine goOn_mid 2 4 1 u 128 191 1 q (by omega) (fun e he => ?_) (by omega) (by omega) (fun e h3 h4 q => ?_)
        · constructor
          · intro z; omega
          · intro z; exact ⟨by omega, mayBe43 _ (by omega) (by omega)⟩
        · refine goOn_last 0 2 _ q (fun x hx hi => ?_)
          rw [(lenB 0).1, (lenB 0).2]
          have := (isCh_iff _).mp hi
          omega
    · have e1 : firstN c.toNat = 0 := by
        unfold firstN
        rw [if_neg a1, if_neg (by omega), if_neg (by omega), if_neg (by omega)]
      have e2 : firstV c.toNat = 0 := by
        unfold firstV
        rw [if_neg a1, if_neg (by omega), if_neg (by omega), if_neg (by omega)]
      rw [if_pos (t6 (by omega)), e1, e2]
      rfl
end Sg

/-! SgMath3 -/
set_option Elab.async false
set_option linter.all false
set_option maxRecDepth 100000
set_option maxHeartbeats 2000000
namespace Sg
open Fh
/-! ### numbers -/
/-- any([leads_to(v, least, most) for least, most in rs]) -/
def canR (rs : List (Nat × Nat)) (v : Nat) : Bool := rs.any fun r => begins r.1 r.2 v
def finR (rs : List (Nat × Nat)) (v : Nat) : Bool := rs.any fun r => within r.1 r.2 v
theorem begins_zero (lo hi : Nat) : begins lo hi 0 = decide (lo = 0) := by
  unfold begins
  rw [if_pos rfl]
theorem ten_lt (v k : Nat) (hv : v ≠ 0) (hi : Nat) (hb : hi < 10 ^ 8) (h : v * 10 ^ k ≤ hi) : k < 8 := by
  by_cases z : k < 8
  · exact z
  · exfalso
    have h1 : 10 ^ 8 ≤ 10 ^ k := Nat.pow_le_pow_right (by omega) (by omega)
    have h2 : 1 * 10 ^ k ≤ v * 10 ^ k := Nat.mul_le_mul_right _ (by omega)
    omega
theorem begins_true {lo hi v : Nat} (k : Nat) (hv : v ≠ 0) (hb : hi < 10 ^ 8) (h1 : v * 10 ^ k ≤ hi) (h2 : lo ≤ v * 10 ^ k + (10 ^ k - 1)) : begins lo hi v = true := by
  unfold begins
  rw [if_neg hv, List.any_eq_true]
  refine ⟨k, List.mem_range.mpr (ten_lt v k hv hi hb h1), ?_⟩
  rw [Bool.and_eq_true, decide_eq_true_eq, decide_eq_true_eq]
  exact ⟨h1, h2⟩
theorem begins_false {lo hi v : Nat} (k : Nat) (hv : v ≠ 0) (h1 : ∀ j, j < k → v * 10 ^ j + (10 ^ j - 1) < lo) (h2 : hi < v * 10 ^ k) : begins lo hi v = false := by
  cases q : begins lo hi v with
  | false => rfl
  | true =>
    exfalso
    unfold begins at q
    rw [if_neg hv, List.any_eq_true] at q
    obtain ⟨j, _, hj⟩ := q
    rw [Bool.and_eq_true, decide_eq_true_eq, decide_eq_true_eq] at hj
    by_cases z : j < k
    · have := h1 j z; omega
    · have h3 : 10 ^ k ≤ 10 ^ j := Nat.pow_le_pow_right (by omega) (by omega)
      have h4 : v * 10 ^ k ≤ v * 10 ^ j := Nat.mul_le_mul_left _ h3
      omega
/-- k digits are gone that tell v -/
def numGo (can fin : Nat → Bool) (k v : Nat) (b : Bytes) : Except Nat (Nat × Nat) := if k = 0 then numberHere can fin b else moreDigits can fin k v b
theorem isDigit_lk (c : UInt8) (r : Bytes) : isDigit c = true ↔ 48 ≤ lk (c :: r) ∧ lk (c :: r) ≤ 57 := by
  show isDigit c = true ↔ 48 ≤ c.toNat ∧ c.toNat ≤ 57
  unfold isDigit
  rw [Bool.and_eq_true, decide_eq_true_eq, decide_eq_true_eq, UInt8.le_iff_toNat_le, UInt8.le_iff_toNat_le]
  rfl
theorem numGo_digit_bad (can fin : Nat → Bool) (k v : Nat) (b : Bytes) (hd : 48 ≤ lk b ∧ lk b ≤ 57) (h : (v = 0 ∧ 0 < k) ∨ can (v * 10 + lk b - 48) = false) (h0 : k = 0 → v = 0) : numGo can fin k v b = .error k := by
  match b with
  | [] => exact absurd hd.2 (by decide)
  | c :: r =>
    have di := (isDigit_lk c r).mpr hd
    have hl : lk (c :: r) = c.toNat := rfl
    rw [hl] at h hd
    unfold numGo
    by_cases hk : k = 0
    · subst hk
      rw [if_pos rfl]
      have hv := h0 rfl
      subst hv
      rcases h with h | h
      · omega
      · rw [numberHere, if_neg]
        rintro ⟨_, q⟩
        have e : 0 * 10 + c.toNat - 48 = c.toNat - 48 := by omega
        rw [e, q] at h
        exact absurd h (by simp)
    · rw [if_neg hk, moreDigits, if_neg, if_neg]
      · rintro ⟨_, q⟩
        rw [di] at q; exact absurd q (by simp)
      · rintro ⟨_, q1, q2⟩
        rcases h with h | h
        · exact q1 h.1
        · have e : v * 10 + c.toNat - 48 = 10 * v + (c.toNat - 48) := by omega
          rw [e, q2] at h
          exact absurd h (by simp)
theorem numGo_digit (can fin : Nat → Bool) (k v : Nat) (b : Bytes) (hd : 48 ≤ lk b ∧ lk b ≤ 57) (h : ¬ (v = 0 ∧ 0 < k)) (hc : can (v * 10 + lk b - 48) = true) (h0 : k = 0 → v = 0) : numGo can fin k v b = numGo can fin (k + 1) (v * 10 + lk b - 48) (b.drop 1) := by
  match b with
  | [] => exact absurd hd.2 (by decide)
  | c :: r =>
    have di := (isDigit_lk c r).mpr hd
    have hl : lk (c :: r) = c.toNat := rfl
    rw [hl] at hc hd ⊢
    have e : v * 10 + c.toNat - 48 = 10 * v + (c.toNat - 48) := by omega
    rw [e] at hc ⊢
    show _ = numGo can fin (k + 1) (10 * v + (c.toNat - 48)) r
    unfold numGo
    rw [if_neg (Nat.succ_ne_zero k)]
    by_cases hk : k = 0
    · subst hk
      have hv := h0 rfl
      subst hv
      have e : 10 * 0 + (c.toNat - 48) = c.toNat - 48 := by omega
      rw [e] at hc ⊢
      rw [if_pos rfl, numberHere, if_pos ⟨di, hc⟩]
    · rw [if_neg hk, moreDigits, if_pos ⟨di, fun z => h ⟨z, by omega⟩, hc⟩]
theorem numGo_end_bad (can fin : Nat → Bool) (k v : Nat) (b : Bytes) (hd : ¬ (48 ≤ lk b ∧ lk b ≤ 57)) (h : k = 0 ∨ fin v = false) : numGo can fin k v b = .error k := by
  unfold numGo
  match b with
  | [] =>
    by_cases hk : k = 0
    · subst hk; rw [if_pos rfl]; rfl
    · rw [if_neg hk, moreDigits, if_neg (by rw [h.resolve_left hk]; simp)]
  | c :: r =>
    have di : ¬ isDigit c = true := fun z => hd ((isDigit_lk c r).mp z)
    by_cases hk : k = 0
    · subst hk; rw [if_pos rfl, numberHere, if_neg (fun z => di z.1)]
    · rw [if_neg hk, moreDigits, if_neg (fun z => di z.1), if_neg (by rw [h.resolve_left hk]; simp)]
theorem numGo_end (can fin : Nat → Bool) (k v : Nat) (b : Bytes) (hd : ¬ (48 ≤ lk b ∧ lk b ≤ 57)) (hk : k ≠ 0) (h : fin v = true) : numGo can fin k v b = .ok (v, k) := by
  unfold numGo
  rw [if_neg hk]
  match b with
  | [] => rw [moreDigits, if_pos h]
  | c :: r =>
    have di : ¬ isDigit c = true := fun z => hd ((isDigit_lk c r).mp z)
    rw [moreDigits, if_neg (fun z => di z.1), if_pos ⟨h, by simpa using di⟩]
/-- a number that is read lies within, and takes some bytes that are there -/
theorem moreDigits_ok (can fin : Nat → Bool) : ∀ (b : Bytes) (k v x m : Nat), moreDigits can fin k v b = .ok (x, m) → fin x = true ∧ k ≤ m ∧ m ≤ k + b.length
  | [], k, v, x, m, h => by
    rw [moreDigits] at h
    split at h
    · rename_i q
      cases h
      exact ⟨q, Nat.le_refl _, by simp⟩
    · cases h
  | c :: r, k, v, x, m, h => by
    rw [moreDigits] at h
    split at h
    · have := moreDigits_ok can fin r _ _ _ _ h
      refine ⟨this.1, by omega, ?_⟩
      rw [List.length_cons]; omega
    · split at h
      · rename_i q
        cases h
        exact ⟨q.1, Nat.le_refl _, by omega⟩
      · cases h
theorem numberHere_ok (can fin : Nat → Bool) (b : Bytes) (x m : Nat) (h : numberHere can fin b = .ok (x, m)) : fin x = true ∧ 1 ≤ m ∧ m ≤ b.length := by
  match b with
  | [] => cases h
  | c :: r =>
    rw [numberHere] at h
    split at h
    · have := moreDigits_ok can fin r _ _ _ _ h
      refine ⟨this.1, this.2.1, ?_⟩
      rw [List.length_cons]; omega
    · cases h
theorem moreDigits_err (can fin : Nat → Bool) : ∀ (b : Bytes) (k v m : Nat), moreDigits can fin k v b = .error m → k ≤ m ∧ m ≤ k + b.length
  | [], k, v, m, h => by
    rw [moreDigits] at h
    split at h
    · cases h
    · cases h
      exact ⟨Nat.le_refl _, by simp⟩
  | c :: r, k, v, m, h => by
    rw [moreDigits] at h
    split at h
    · have := moreDigits_err can fin r _ _ _ h
      rw [List.length_cons]; omega
    · split at h
      · cases h
      · cases h
        exact ⟨Nat.le_refl _, by omega⟩
end Sg

/-! SgMath4 -/
set_option Elab.async false
set_option linter.all false
set_option maxRecDepth 100000
set_option maxHeartbeats 2000000
namespace Sg
open Fh
/-! ### the specification's readers, a step at a time, by the next byte -/
abbrev num (lo hi : Nat) (b : Bytes) : Except Nat (Nat × Nat) := numberHere (begins lo hi) (within lo hi) b
theorem canR_one (lo hi : Nat) : canR [(lo, hi)] = begins lo hi := by
  funext v
  simp [canR]
theorem finR_one (lo hi : Nat) : finR [(lo, hi)] = within lo hi := by
  funext v
  simp [finR]
theorem u8_eq (c : UInt8) (n : Nat) (hn : n < 256) : c = UInt8.ofNat n ↔ c.toNat = n := by
  rw [← UInt8.toNat_inj]
  have : (UInt8.ofNat n).toNat = n := by simp [UInt8.toNat_ofNat]; omega
  rw [this]
theorem lk_cons (c : UInt8) (r : Bytes) : lk (c :: r) = c.toNat := rfl
theorem lk_nil : lk [] = 256 := rfl
theorem lk_eq10 (c : UInt8) (r : Bytes) : c = 10 ↔ lk (c :: r) = 10 := u8_eq c 10 (by omega)
theorem lk_eq32 (c : UInt8) (r : Bytes) : c = 32 ↔ lk (c :: r) = 32 := u8_eq c 32 (by omega)
theorem lk_eq34 (c : UInt8) (r : Bytes) : c = 34 ↔ lk (c :: r) = 34 := u8_eq c 34 (by omega)
theorem lk_eq36 (c : UInt8) (r : Bytes) : c = 36 ↔ lk (c :: r) = 36 := u8_eq c 36 (by omega)
theorem lk_eq37 (c : UInt8) (r : Bytes) : c = 37 ↔ lk (c :: r) = 37 := u8_eq c 37 (by omega)
theorem lk_eq42 (c : UInt8) (r : Bytes) : c = 42 ↔ lk (c :: r) = 42 := u8_eq c 42 (by omega)
theorem lk_eq43 (c : UInt8) (r : Bytes) : c = 43 ↔ lk (c :: r) = 43 := u8_eq c 43 (by omega)
theorem lk_eq45 (c : UInt8) (r : Bytes) : c = 45 ↔ lk (c :: r) = 45 := u8_eq c 45 (by omega)
theorem lk_eq46 (c : UInt8) (r : Bytes) : c = 46 ↔ lk (c :: r) = 46 := u8_eq c 46 (by omega)
theorem lk_eq94 (c : UInt8) (r : Bytes) : c = 94 ↔ lk (c :: r) = 94 := u8_eq c 94 (by omega)
theorem lk_eq124 (c : UInt8) (r : Bytes) : c = 124 ↔ lk (c :: r) = 124 := u8_eq c 124 (by omega)
theorem drop_more (b : Bytes) (p m : Nat) : (b.drop p).drop m = b.drop (p + m) := by rw [List.drop_drop]
theorem drop_cons {b : Bytes} {m : Nat} {d : UInt8} {r : Bytes} (e : b.drop m = d :: r) : b.drop (m + 1) = r := by
  rw [← drop_more, e]
  rfl
def nextLo (l : List (Nat × Nat)) : Nat := (l.head?.map fun (x : Nat × Nat) => x.2 + 1).getD 0
def rangeM (lo : Nat) (b : Bytes) : Except Nat ((Nat × Nat) × Nat) :=
  if lk b ≠ 32 then .error 0 else match num lo LARGEST (b.drop 1) with
  | .error k => .error (1 + k)
  | .ok x => if lk (b.drop (1 + x.2)) ≠ 45 then .error (1 + x.2) else match num x.1 LARGEST (b.drop (2 + x.2)) with
    | .error k => .error (2 + x.2 + k)
    | .ok y => .ok ((x.1, y.1), 2 + x.2 + y.2)
def rangesStep (f n : Nat) (l : List (Nat × Nat)) (b : Bytes) : Except Nat (List (Nat × Nat) × Nat) := match rangeM (nextLo l) b with
  | .error k => .error (n + k)
  | .ok x => rangesFrom f (n + x.2) (x.1 :: l) (b.drop x.2)
theorem rangesFrom_step (f n : Nat) (l : List (Nat × Nat)) (b : Bytes) : rangesFrom (f + 1) n l b =
    if lk b = 10 ∧ l ≠ [] then .ok (l.reverse, n + 1) else if lk b ≠ 32 ∨ LARGEST < nextLo l then .error n else rangesStep f n l b := by
  match b with
  | [] =>
    rw [rangesFrom, if_neg (by rw [lk_nil]; omega), if_pos (by rw [lk_nil]; omega)]
  | c :: b =>
    rw [rangesFrom]
    simp only [ne_eq, lk_eq10 c b, lk_eq32 c b]
    show (if lk (c :: b) = 10 ∧ ¬ l = [] then Except.ok (l.reverse, n + 1) else if ¬ lk (c :: b) = 32 ∨ LARGEST < nextLo l then Except.error n else _) = _
    by_cases h1 : lk (c :: b) = 10 ∧ ¬ l = []
    · rw [if_pos h1, if_pos h1]
    · rw [if_neg h1, if_neg h1]
      by_cases h2 : ¬ lk (c :: b) = 32 ∨ LARGEST < nextLo l
      · rw [if_pos h2, if_pos h2]
      · rw [if_neg h2, if_neg h2]
        unfold rangesStep rangeM
        have hc : lk (c :: b) = 32 := by omega
        rw [if_neg (fun z => z hc)]
        unfold num
        show (match numberHere (begins (nextLo l) LARGEST) (within (nextLo l) LARGEST) b with | .error k => Except.error (n + 1 + k) | .ok (x, m) => match b.drop m with | [] => Except.error (n + 1 + m) | d :: r => if ¬ d = 45 then Except.error (n + 1 + m) else match numberHere (begins x LARGEST) (within x LARGEST) r with | .error k => Except.error (n + 2 + m + k) | .ok (y, j) => rangesFrom f (n + 2 + m + j) ((x, y) :: l) (r.drop j)) = _
        rw [show List.drop 1 (c :: b) = b from rfl]
        cases hx : numberHere (begins (nextLo l) LARGEST) (within (nextLo l) LARGEST) b with
        | error k => show Except.error (n + 1 + k) = Except.error (n + (1 + k)); rw [Nat.add_assoc]
        | ok xm =>
          obtain ⟨x, m⟩ := xm
          show (match b.drop m with | [] => Except.error (n + 1 + m) | d :: r => if ¬ d = 45 then Except.error (n + 1 + m) else match numberHere (begins x LARGEST) (within x LARGEST) r with | .error k => Except.error (n + 2 + m + k) | .ok (y, j) => rangesFrom f (n + 2 + m + j) ((x, y) :: l) (r.drop j)) =
            match (if lk ((c :: b).drop (1 + m)) ≠ 45 then Except.error (1 + m) else match numberHere (begins x LARGEST) (within x LARGEST) ((c :: b).drop (2 + m)) with | .error k => Except.error (2 + m + k) | .ok y => Except.ok ((x, y.1), 2 + m + y.2)) with | .error k => Except.error (n + k) | .ok z => rangesFrom f (n + z.2) (z.1 :: l) ((c :: b).drop z.2)
          have e1 : (c :: b).drop (1 + m) = b.drop m := by rw [Nat.add_comm, List.drop_succ_cons]
          have e2 : (c :: b).drop (2 + m) = b.drop (m + 1) := by rw [show 2 + m = (m + 1) + 1 by omega, List.drop_succ_cons]
          rw [e1, e2]
          cases hd : b.drop m with
          | nil =>
            rw [if_pos (by rw [lk_nil]; omega)]
            show Except.error (n + 1 + m) = Except.error (n + (1 + m))
            rw [Nat.add_assoc]
          | cons d r =>
            show (if ¬ d = 45 then Except.error (n + 1 + m) else match numberHere (begins x LARGEST) (within x LARGEST) r with | .error k => Except.error (n + 2 + m + k) | .ok (y, j) => rangesFrom f (n + 2 + m + j) ((x, y) :: l) (r.drop j)) = _
            by_cases h3 : d = 45
            · rw [if_neg (fun z => z h3), if_neg (fun z => z ((lk_eq45 d r).mp h3)), drop_cons hd]
              cases hy : numberHere (begins x LARGEST) (within x LARGEST) r with
              | error k => show Except.error (n + 2 + m + k) = Except.error (n + (2 + m + k)); rw [show n + 2 + m + k = n + (2 + m + k) by omega]
              | ok yj =>
                obtain ⟨y, j⟩ := yj
                show rangesFrom f (n + 2 + m + j) ((x, y) :: l) (r.drop j) = rangesFrom f (n + (2 + m + j)) ((x, y) :: l) ((c :: b).drop (2 + m + j))
                have e3 : (c :: b).drop (2 + m + j) = r.drop j := by
                  rw [← drop_more, e2, drop_cons hd]
                rw [e3, show n + 2 + m + j = n + (2 + m + j) by omega]
            · rw [if_pos h3, if_pos (fun z => h3 ((lk_eq45 d r).mpr z))]
              show Except.error (n + 1 + m) = Except.error (n + (1 + m))
              rw [Nat.add_assoc]
/-! ### characters between quotes -/
theorem litFrom_step (f n : Nat) (l : List Nat) (b : Bytes) : litFrom (f + 1) n l b = if lk b = 34 then (if l = [] then .error n else .ok (l.reverse, n + 1)) else match charHere b with
    | .ok x => litFrom f (n + x.2) (x.1 :: l) (b.drop x.2)
    | .error k => .error (n + k) := by
  match b with
  | [] => rw [litFrom, if_neg (by rw [lk_nil]; omega)]; rfl
  | c :: b =>
    rw [litFrom]
    by_cases h : c = 34
    · rw [if_pos h, if_pos ((lk_eq34 c b).mp h)]
    · rw [if_neg h, if_neg (fun z => h ((lk_eq34 c b).mpr z))]
      cases charHere (c :: b) <;> rfl
/-! ### atoms -/
theorem begins_small (s v : Nat) (hs : s ≤ 15) : begins s s v = (s == v || (v != 0 && s / 10 == v)) := by
  by_cases hv : v = 0
  · subst hv
    rw [begins_zero]
    by_cases h : s = 0
    · subst h; rfl
    · rw [decide_eq_false h]
      simp [h]
  · by_cases h : s = v
    · subst h
      rw [begins_true 0 hv (by omega) (by simp) (by simp)]
      simp
    · by_cases h2 : s / 10 = v
      · rw [begins_true 1 hv (by omega) (by omega) (by omega)]
        simp [hv, h2]
      · have e : begins s s v = false := by
          by_cases q : s < v
          · exact begins_false 0 hv (fun j hj => absurd hj (by omega)) (by simp; omega)
          · refine begins_false 1 hv (fun j hj => ?_) (by simp; omega)
            have : j = 0 := by omega
            subst this
            simp; omega
        rw [e]
        simp [h, h2]
theorem any_congr {α : Type} {l : List α} {f g : α → Bool} (h : ∀ x ∈ l, f x = g x) : l.any f = l.any g := by
  induction l with
  | nil => rfl
  | cons a r ih =>
    rw [List.any_cons, List.any_cons, h a (by simp), ih (fun x hx => h x (by simp [hx]))]
theorem canR_known (ks : List Nat) (h : ∀ s ∈ ks, s ≤ 15) : canR (ks.map fun s => (s, s)) = fun v => ks.any fun (s : Nat) => s == v || (v != 0 && s / 10 == v) := by
  funext v
  unfold canR
  rw [List.any_map]
  exact any_congr fun s hs => begins_small s v (h s hs)
theorem finR_known (ks : List Nat) : finR (ks.map fun s => (s, s)) = fun v => ks.contains v := by
  funext v
  unfold finR
  rw [List.any_map, List.contains_eq_any_beq]
  refine any_congr fun s _ => ?_
  show within s s v = (v == s)
  unfold within
  by_cases h : v = s
  · subst h; simp
  · have : ¬ (s ≤ v ∧ v ≤ s) := by omega
    rw [beq_eq_false_iff_ne.mpr h]
    simp only [Bool.and_eq_false_iff, decide_eq_false_iff_not]
    omega
def litAtom (b : Bytes) : Except Nat (Atom × Nat) := match litFrom ((b.drop 1).length + 1) 0 [] (b.drop 1) with
  | .ok x => .ok (.lit x.1, x.2 + 1)
  | .error k => .error (k + 1)
def clsAtom (ks : List Nat) (b : Bytes) : Except Nat (Atom × Nat) := match numberHere (canR (ks.map fun s => (s, s))) (finR (ks.map fun s => (s, s))) (b.drop 1) with
  | .ok x => .ok (.cls x.1, x.2 + 1)
  | .error k => .error (k + 1)
theorem atomHere_step (ks : List Nat) (h : ∀ s ∈ ks, s ≤ 15) (b : Bytes) : atomHere ks b = if lk b = 34 then litAtom b else if lk b = 37 ∧ ks ≠ [] then clsAtom ks b else if lk b = 46 then .ok (.any, 1) else .error 0 := by
  match b with
  | [] => rw [if_neg (by rw [lk_nil]; omega), if_neg (by rw [lk_nil]; omega), if_neg (by rw [lk_nil]; omega)]; rfl
  | c :: b =>
    rw [atomHere]
    by_cases h1 : c = 34
    · rw [if_neg (by rw [h1]; decide), if_pos h1, if_pos ((lk_eq34 c b).mp h1)]
      rfl
    · rw [if_neg (fun z => h1 ((lk_eq34 c b).mpr z)), if_neg h1]
      by_cases h2 : c = 46
      · rw [if_pos h2, if_neg (by rw [(lk_eq46 c b).mp h2]; omega), if_pos ((lk_eq46 c b).mp h2)]
      · rw [if_neg h2]
        by_cases h3 : c = 37 ∧ ks ≠ []
        · rw [if_pos h3, if_pos ⟨(lk_eq37 c b).mp h3.1, h3.2⟩]
          unfold clsAtom
          rw [canR_known ks h, finR_known]
          rfl
        · rw [if_neg h3, if_neg (fun z => h3 ⟨(lk_eq37 c b).mpr z.1, z.2⟩), if_neg (fun z => h2 ((lk_eq46 c b).mpr z))]
def timesM (b : Bytes) : Except Nat (Nat × Nat × Nat) := if lk b ≠ 42 then .ok (1, 1, 0) else match num 0 32 (b.drop 1) with
  | .error k => .error (1 + k)
  | .ok x => if lk (b.drop (1 + x.2)) ≠ 45 then .error (1 + x.2) else match num (if x.1 = 1 then 2 else x.1) 32 (b.drop (2 + x.2)) with
    | .error k => .error (2 + x.2 + k)
    | .ok y => .ok (x.1, y.1, 2 + x.2 + y.2)
theorem timesHere_is (b : Bytes) : timesHere b = timesM b := by
  match b with
  | [] => rfl
  | c :: b =>
    rw [timesHere]
    unfold timesM
    by_cases h1 : c = 42
    · rw [if_neg (fun z => z h1), if_neg (fun z => z ((lk_eq42 c b).mp h1))]
      unfold num
      rw [show List.drop 1 (c :: b) = b from rfl]
      cases hx : numberHere (begins 0 32) (within 0 32) b with
      | error k => show Except.error (k + 1) = Except.error (1 + k); rw [Nat.add_comm]
      | ok xm =>
        obtain ⟨x, m⟩ := xm
        show (match b.drop m with | [] => Except.error (m + 1) | d :: r => if d ≠ 45 then Except.error (m + 1) else match numberHere (begins (if x = 1 then 2 else x) 32) (within (if x = 1 then 2 else x) 32) r with | .error k => Except.error (m + 2 + k) | .ok (y, j) => Except.ok (x, y, m + 2 + j)) =
            (if lk ((c :: b).drop (1 + m)) ≠ 45 then Except.error (1 + m) else match numberHere (begins (if x = 1 then 2 else x) 32) (within (if x = 1 then 2 else x) 32) ((c :: b).drop (2 + m)) with | .error k => Except.error (2 + m + k) | .ok y => Except.ok (x, y.1, 2 + m + y.2))
        have e1 : (c :: b).drop (1 + m) = b.drop m := by rw [Nat.add_comm, List.drop_succ_cons]
        have e2 : (c :: b).drop (2 + m) = b.drop (m + 1) := by rw [show 2 + m = (m + 1) + 1 by omega, List.drop_succ_cons]
        rw [e1, e2]
        cases hd : b.drop m with
        | nil =>
          rw [if_pos (show lk [] ≠ 45 by rw [lk_nil]; omega)]
          show Except.error (m + 1) = Except.error (1 + m)
          rw [Nat.add_comm]
        | cons d r =>
          show (if d ≠ 45 then Except.error (m + 1) else match numberHere (begins (if x = 1 then 2 else x) 32) (within (if x = 1 then 2 else x) 32) r with | .error k => Except.error (m + 2 + k) | .ok (y, j) => Except.ok (x, y, m + 2 + j)) = _
          by_cases h3 : d = 45
          · rw [if_neg (show ¬ (d ≠ 45) from fun z => z h3), if_neg (show ¬ (lk (d :: r) ≠ 45) from fun z => z ((lk_eq45 d r).mp h3)), drop_cons hd]
            cases hy : numberHere (begins (if x = 1 then 2 else x) 32) (within (if x = 1 then 2 else x) 32) r with
            | error k => show Except.error (m + 2 + k) = Except.error (2 + m + k); rw [Nat.add_comm m 2]
            | ok yj => show Except.ok (x, yj.1, m + 2 + yj.2) = Except.ok (x, yj.1, 2 + m + yj.2); rw [Nat.add_comm m 2]
          · rw [if_pos (show d ≠ 45 from h3), if_pos (show lk (d :: r) ≠ 45 from fun z => h3 ((lk_eq45 d r).mpr z)), Nat.add_comm]
    · rw [if_pos h1, if_pos (fun z => h1 ((lk_eq42 c b).mpr z))]
def itemM (ks : List Nat) (b : Bytes) : Except Nat (Item × Nat) := match atomHere ks b with
  | .error k => .error k
  | .ok x => match timesM (b.drop x.2) with
    | .error k => .error (x.2 + k)
    | .ok y => .ok (⟨x.1, y.1, y.2.1⟩, x.2 + y.2.2)
theorem itemHere_is (ks : List Nat) (b : Bytes) : itemHere ks b = itemM ks b := by
  unfold itemHere itemM
  cases atomHere ks b with
  | error k => rfl
  | ok x =>
    show (match timesHere (b.drop x.2) with | .error k => Except.error (x.2 + k) | .ok (lo, hi, m) => Except.ok (Item.mk x.1 lo hi, x.2 + m)) = _
    rw [timesHere_is]
    show _ = match timesM (List.drop x.snd b) with | .error k => Except.error (x.snd + k) | .ok y => Except.ok (Item.mk x.1 y.1 y.2.1, x.2 + y.2.2)
    cases timesM (List.drop x.snd b) <;> rfl
/-! ### a rule's line -/
def ruleItem (ks : List Nat) (cut : Bool) (f n : Nat) (h : Half) (b : Bytes) : Except Nat (Rule × Nat) := match itemM ks (b.drop 1) with
  | .ok x => ruleFrom ks cut f (n + 1 + x.2) (h.with_ x.1) (b.drop (1 + x.2))
  | .error k => .error (n + 1 + k)
theorem ruleFrom_step (ks : List Nat) (cut : Bool) (f n : Nat) (h : Half) (b : Bytes) : ruleFrom ks cut (f + 1) n h b =
    if lk b = 10 ∧ h.bar = true then .ok (h.rule cut, n + 1) else if lk b ≠ 32 ∨ h.halt_ = true then .error n
    else if lk (b.drop 1) = 94 ∧ h.start = false ∧ h.before = [] ∧ h.bar = false then ruleFrom ks cut f (n + 2) { h with start := true } (b.drop 2)
    else if lk (b.drop 1) = 124 ∧ h.bar = false then ruleFrom ks cut f (n + 2) { h with bar := true } (b.drop 2)
    else if lk (b.drop 1) = 36 ∧ h.bar = true then ruleFrom ks cut f (n + 2) { h with halt_ := true } (b.drop 2)
    else ruleItem ks cut f n h b := by
  match b with
  | [] =>
    rw [ruleFrom, if_neg (by rw [lk_nil]; omega), if_pos (by rw [lk_nil]; omega)]
  | c :: b =>
    have u : ruleFrom ks cut (f + 1) n h (c :: b) = if c = 10 ∧ h.bar = true then Except.ok (h.rule cut, n + 1)
        else if c ≠ 32 ∨ h.halt_ = true then Except.error n
        else match b with
          | [] => Except.error (n + 1)
          | d :: r => if d = 94 ∧ h.start = false ∧ h.before = [] ∧ h.bar = false then ruleFrom ks cut f (n + 2) { h with start := true } r
            else if d = 124 ∧ h.bar = false then ruleFrom ks cut f (n + 2) { h with bar := true } r
            else if d = 36 ∧ h.bar = true then ruleFrom ks cut f (n + 2) { h with halt_ := true } r
            else match itemHere ks (d :: r) with
              | .ok (i, m) => ruleFrom ks cut f (n + 1 + m) (h.with_ i) ((d :: r).drop m)
              | .error k => Except.error (n + 1 + k) := by rw [ruleFrom.eq_def] <;> rfl
    rw [u]
    simp only [ne_eq, lk_eq10 c b, lk_eq32 c b]
    by_cases h1 : lk (c :: b) = 10 ∧ h.bar = true
    · rw [if_pos h1, if_pos h1]
    · rw [if_neg h1, if_neg h1]
      by_cases h2 : ¬ lk (c :: b) = 32 ∨ h.halt_ = true
      · rw [if_pos h2, if_pos h2]
      · rw [if_neg h2, if_neg h2]
        unfold ruleItem
        show _ = if lk b = 94 ∧ h.start = false ∧ h.before = [] ∧ h.bar = false then ruleFrom ks cut f (n + 2) { h with start := true } (b.drop 1)
            else if lk b = 124 ∧ h.bar = false then ruleFrom ks cut f (n + 2) { h with bar := true } (b.drop 1)
            else if lk b = 36 ∧ h.bar = true then ruleFrom ks cut f (n + 2) { h with halt_ := true } (b.drop 1)
            else match itemM ks b with
            | .ok x => ruleFrom ks cut f (n + 1 + x.2) (h.with_ x.1) ((c :: b).drop (1 + x.2))
            | .error k => Except.error (n + 1 + k)
        match b with
        | [] => rw [if_neg (by rw [lk_nil]; omega), if_neg (by rw [lk_nil]; omega), if_neg (by rw [lk_nil]; omega)]; rfl
        | d :: r =>
          simp only [lk_eq94 d r, lk_eq124 d r, lk_eq36 d r, itemHere_is]
          rw [show (d :: r).drop 1 = r from rfl]
          cases itemM ks (d :: r) with
          | error k => rfl
          | ok x =>
            show _ = if _ then _ else if _ then _ else if _ then _ else ruleFrom ks cut f (n + 1 + x.2) (h.with_ x.1) ((c :: d :: r).drop (1 + x.2))
            rw [show (c :: d :: r).drop (1 + x.2) = (d :: r).drop x.2 by rw [Nat.add_comm, List.drop_succ_cons]]
/-! ### rules -/
def nextCls (cs : List (Nat × List (Nat × Nat))) : Nat := (cs.head?.map fun (x : Nat × List (Nat × Nat)) => x.1 + 1).getD 0
def clsStep (f n : Nat) (cs : List (Nat × List (Nat × Nat))) (rs : List Rule) (b : Bytes) : Except Nat Rules := match num (nextCls cs) 15 (b.drop 1) with
  | .error k => .error (n + 1 + k)
  | .ok x => match rangesFrom ((b.drop 1).length + 1) (n + 1 + x.2) [] (b.drop (1 + x.2)) with
    | .error k => .error k
    | .ok y => rulesFrom f y.2 ((x.1, y.1) :: cs) rs (b.drop (y.2 - n))
def rulStep (f n : Nat) (cs : List (Nat × List (Nat × Nat))) (rs : List Rule) (b : Bytes) : Except Nat Rules := match ruleFrom (cs.map fun (x : Nat × List (Nat × Nat)) => x.1) (lk b == 43) ((b.drop 1).length + 1) (n + 1) ⟨false, [], false, [], false⟩ (b.drop 1) with
  | .error k => .error k
  | .ok y => rulesFrom f y.2 cs (y.1 :: rs) (b.drop (y.2 - n))
theorem rulesFrom_step (f n : Nat) (cs : List (Nat × List (Nat × Nat))) (rs : List Rule) (b : Bytes) : rulesFrom (f + 1) n cs rs b =
    if b = [] then .ok ⟨cs.reverse, rs.reverse⟩ else if lk b = 37 ∧ rs.isEmpty = true ∧ nextCls cs < 16 then clsStep f n cs rs b
    else if lk b = 43 ∨ lk b = 45 then rulStep f n cs rs b else .error n := by
  match b with
  | [] => rw [if_pos rfl]; rfl
  | c :: b =>
    rw [if_neg (by simp), rulesFrom]
    show (if c = 37 ∧ rs.isEmpty = true ∧ nextCls cs < 16 then _ else if c = 43 ∨ c = 45 then _ else _) = _
    simp only [lk_eq37 c b, lk_eq43 c b, lk_eq45 c b]
    by_cases h1 : lk (c :: b) = 37 ∧ rs.isEmpty = true ∧ nextCls cs < 16
    · rw [if_pos h1, if_pos h1]
      unfold clsStep
      show (match num (nextCls cs) 15 b with | .error k => Except.error (n + 1 + k) | .ok (x, m) => match rangesFrom (b.length + 1) (n + 1 + m) [] (b.drop m) with | .error k => Except.error k | .ok (l, k) => rulesFrom f k ((x, l) :: cs) rs ((c :: b).drop (k - n))) = match num (nextCls cs) 15 b with | .error k => Except.error (n + 1 + k) | .ok x => _
      cases num (nextCls cs) 15 b with
      | error k => rfl
      | ok x =>
        show (match rangesFrom (b.length + 1) (n + 1 + x.2) [] (b.drop x.2) with | .error k => Except.error k | .ok (l, k) => rulesFrom f k ((x.1, l) :: cs) rs ((c :: b).drop (k - n))) = match rangesFrom (b.length + 1) (n + 1 + x.2) [] ((c :: b).drop (1 + x.2)) with | .error k => Except.error k | .ok y => _
        rw [show (c :: b).drop (1 + x.2) = b.drop x.2 by rw [Nat.add_comm, List.drop_succ_cons]]
        cases rangesFrom (b.length + 1) (n + 1 + x.2) [] (b.drop x.2) <;> rfl
    · rw [if_neg h1, if_neg h1]
      by_cases h2 : lk (c :: b) = 43 ∨ lk (c :: b) = 45
      · rw [if_pos h2, if_pos h2]
        unfold rulStep
        have e : (c == 43) = (lk (c :: b) == 43) := by
          by_cases q : c = 43
          · rw [beq_iff_eq.mpr q, beq_iff_eq.mpr ((lk_eq43 c b).mp q)]
          · rw [beq_eq_false_iff_ne.mpr q, beq_eq_false_iff_ne.mpr (fun z => q ((lk_eq43 c b).mpr z))]
        rw [e]
        show _ = match ruleFrom (cs.map fun (x : Nat × List (Nat × Nat)) => x.1) (lk (c :: b) == 43) (b.length + 1) (n + 1) ⟨false, [], false, [], false⟩ b with | .error k => Except.error k | .ok y => _
        cases ruleFrom (cs.map fun (x : Nat × List (Nat × Nat)) => x.1) (lk (c :: b) == 43) (b.length + 1) (n + 1) ⟨false, [], false, [], false⟩ b <;> rfl
      · rw [if_neg h2, if_neg h2]
end Sg

/-! SgBase -/
set_option Elab.async false
set_option linter.all false
set_option maxRecDepth 100000
set_option maxHeartbeats 4000000
/-! ### rules of the layer that this program wants besides -/
namespace Sg
open PySem PySem.Spec PyProof.Rows L2
section
variable {X : Cx} {C : Addr} {bmB : List Value} {B newId initId : String}
/-- E(), E an own exception class without __init__ -/
theorem pmk_bare {x : Str} {p pos : Pos} (F : ExcBaseFacts B newId initId bmB) (hex : PySem.W.excIn X.K C bmB newId = true) (hname : X.mg x = some (.ref C)) (hkeep : PySem.W.keepIn X.K (.ref C) = true)
    (hr : Raises X (.ref C)) (hgl : Gl X x) (hdbg : (x == ("__debug__" : Str)) = false := by decide) : PMk X (.Call (.Name x p) [] [] pos) (fun _ H Q => Q (.ref C) none H) := by
  intro pins s σ H Q I want
  refine wpAny_Call_Name_kw (ld_glob I hgl hname (PySem.W.callWith_K0 I.kIn hkeep ?_) hdbg)
  show wpAny _ _ (call (.ref C) []) _ _ _
  obtain ⟨_, _, _, _, _, _, _, _, _, _, _, _, _, _, _, _, _, hcls, hns, hinit, tail⟩ := exc_obj I.kIn hex
  exact wpAny_call_exc_subT F tail hcls hns hinit (fun _ _ made => mk_of I made hr want (I.hok.gone made.new)) (Nat.zero_le _)
end
/-- an int that the module holds -/
theorem pe_k {X : Cx} {x : Str} {n : Int} {pos : Pos} (h : ∃ t, X.mg x = some (.int n t)) (hg : Gl X x) (hd : (x == ("__debug__" : Str)) = false := by decide) : PE X (.Name x pos) (tC (.int n)) := by
  obtain ⟨t, h⟩ := h
  exact pe_glob hg h ⟨t, rfl⟩ hd
/-- what a def lets out goes out of its caller -/
theorem passOf {X : Cx} {E : XK} {E₁ : Value → Shared → Prop} (hs : X.stack = X.env :: X.outer) (hf : X.env.frame = some X.env.locals) (hex : X.ex = [])
    (hx : X.xe = fun e s' => wpAny (model X.prog X.w) X.A (leaving X.env e) (fun _ s'' => L2.CX X.prog X.w X.outer X.H_0 X.s_0 E e s'') E₁ s') : Passes (L2.CX X.prog X.w) X E :=
  passes_call (takes_of hs hf hex hx) fun _ _ _ _ h => h
/-! ### defs and methods with their promises -/
structure CallOk (P : Program) (w : World) (K : PySem.W.Frag) (mg : Str → Option Value) (base : Heap) (CX : CXT) (k : Nat) (x : Str) (ps : List Str) (sp : Sp) : Prop where
  ex : ∃ f fd, mg x = some (.ref f) ∧ PySem.W.keepIn K (.ref f) = true ∧ Binds K fd ps [] ∧ FnOk P w K mg base CX k f fd ps sp
structure MethOk (P : Program) (w : World) (K : PySem.W.Frag) (mg : Str → Option Value) (base : Heap) (CX : CXT) (k : Nat) (C : Addr) (m : Str) (ps : List Str) (sp : Sp) : Prop where
  ex : ∃ f fd, Meth K C m f ∧ Binds K fd ps [] ∧ FnOk P w K mg base CX k f fd ps sp
structure NewOk (P : Program) (w : World) (K : PySem.W.Frag) (mg : Str → Option Value) (base : Heap) (k : Nat) (x : Str) (C : Addr) (ps : List Str) (sp : Sp) : Prop where
  ex : ∃ f fd, mg x = some (.ref C) ∧ Mk K C f ∧ Binds K fd ps [] ∧ FnOk P w K mg base CX0 k f fd ps sp
section
variable {X : Cx} {CX : CXT} {k : Nat} {C : Addr} {ps : List Str} {sp : Sp} {E : XK} {x m : Str} {p pos apos : Pos} {e o : Expr} {es : List Expr} {ta : TE} {t : TA}
theorem pe_c (G : CallOk X.prog X.w X.K X.mg X.base CX k x ps sp) (hr : Room k X.A) (hg : Gl X x) (hx : Passes CX X E) (ha : PA X (e :: es) t) (hdb : (x == ("__debug__" : Str)) = false := by decide)
    (he : starEach (e :: es) X.env = (false, eval e X.env) :: starEach es X.env := by rfl) (hpl : (backTo pos (starEach es X.env)).any (·.1) = false := by rfl) : PE X (.Call (.Name x p) (e :: es) [] pos) (tCall sp [] E t) := by
  obtain ⟨f, fd, hm, hk, hb, F⟩ := G.ex
  exact pe_call F hr hg hm hk hb .nil hx ha hdb he hpl
theorem pe_mk (G : NewOk X.prog X.w X.K X.mg X.base k x C ps sp) (hr : Room (k + 1) X.A) (hg : Gl X x) (ha : PA X (e :: es) t) (hdb : (x == ("__debug__" : Str)) = false := by decide)
    (he : starEach (e :: es) X.env = (false, eval e X.env) :: starEach es X.env := by rfl) (hpl : (backTo pos (starEach es X.env)).any (·.1) = false := by rfl) : PE X (.Call (.Name x p) (e :: es) [] pos) (tMake C sp [] E0 t) := by
  obtain ⟨f, fd, hm, hk, hb, F⟩ := G.ex
  exact pe_make hk F hr hg hm hb .nil pass0 ha hdb he hpl
theorem pe_m {pl : Sem Bool} (G : MethOk X.prog X.w X.K X.mg X.base CX k C m ps sp) (c : Cls X.K C) (hr : Room k X.A) (hx : Passes CX X E) (he : PE X o ta) (ha : PA X (e :: es) t)
    (hst : starEach (e :: es) X.env = (false, eval e X.env) :: starEach es X.env := by rfl) (hpl : (backTo pos (starEach es X.env)).any (·.1) = false := by rfl)
    (ht : eval (.Call (.Attribute o m apos) (e :: es) [] pos) X.env = (do
      let ov ← eval o X.env
      standAt apos.atName
      let (f, first) ← holding [ov] (getMethod ov m pl)
      callWith pos f first (backTo pos (starEach (e :: es) X.env)) (backToKw pos (keywordEach [] X.env))) := by rfl) : PE X (.Call (.Attribute o m apos) (e :: es) [] pos) (tMeth C m sp [] E ta t) := by
  obtain ⟨f, fd, hm, hb, F⟩ := G.ex
  exact pe_meth he c hm F hr hb .nil hx ha hst hpl ht
theorem pe_m0 {pl : Sem Bool} (G : MethOk X.prog X.w X.K X.mg X.base CX k C m ps sp) (c : Cls X.K C) (hr : Room k X.A) (hx : Passes CX X E) (he : PE X o ta)
    (ht : eval (.Call (.Attribute o m apos) [] [] pos) X.env = (do
      let ov ← eval o X.env
      standAt apos.atName
      let (f, first) ← holding [ov] (getMethod ov m pl)
      callWith pos f first (backTo pos (starEach [] X.env)) (backToKw pos (keywordEach [] X.env))) := by rfl) : PE X (.Call (.Attribute o m apos) [] [] pos) (tMeth C m sp [] E ta tNil) := by
  obtain ⟨f, fd, hm, hb, F⟩ := G.ex
  exact pe_meth0 he c hm F hr hb .nil hx ht
end
/-! ### heaps -/
/-- all but what stands at rd is as it was -/
def Kp (rd : Addr) (H H' : Hp) : Prop := ∀ b o, H b = some o → b ≠ rd → H' b = some o
theorem Kp.refl (rd : Addr) (H : Hp) : Kp rd H H := fun _ _ e _ => e
theorem Kp.trans {rd : Addr} {H H1 H2 : Hp} (a : Kp rd H H1) (b : Kp rd H1 H2) : Kp rd H H2 := fun c o e n => b c o (a c o e n) n
theorem Kp.same {rd : Addr} {H H' : Hp} (a : Same H H') : Kp rd H H' := fun b o e _ => a b o e
theorem Kp.new {rd p : Addr} {H : Hp} {o : HO} (n : H p = none) : Kp rd H (upd H p o) := fun b u e _ => by
  rw [upd_ne (ne_of_none e n)]
  exact e
theorem Kp.self {rd : Addr} {H : Hp} {o : HO} : Kp rd H (upd H rd o) := fun b u e n => by
  rw [upd_ne n]
  exact e
theorem same_new {p : Addr} {H : Hp} {o : HO} (n : H p = none) : Same H (upd H p o) := fun b u e => by
  rw [upd_ne (ne_of_none e n)]
  exact e
/-- bytes as the program sees them -/
def bv (b : Fh.Bytes) : List V := b.map fun (c : UInt8) => V.int ((c.toNat : Nat) : Int)
def rdF (a : Addr) (p e : Nat) : List (Str × V) := [("text", .ref a), ("place", .int (p : Nat)), ("behind", .int (e : Nat))]
/-- bytes that a list begins with -/
def TxtAt (K : PySem.W.Frag) (H : Hp) (a : Addr) (b : Fh.Bytes) : Prop := ∃ full : Fh.Bytes, SqL K H a (bv full) ∧ b <+: full
theorem TxtAt.of {K : PySem.W.Frag} {H : Hp} {a : Addr} {b : Fh.Bytes} (h : SqL K H a (bv b)) : TxtAt K H a b := ⟨b, h, List.prefix_refl b⟩
/-- a Reader at rd: the bytes up to the place behind, how many are taken -/
def RdAt (CR : Addr) (K : PySem.W.Frag) (H : Hp) (rd : Addr) (b : Fh.Bytes) (p : Nat) : Prop :=
  (∃ a dx, H rd = some (.ins CR dx (rdF a p b.length)) ∧ TxtAt K H a b) ∧ p ≤ b.length ∧ b.length ≤ 262144
theorem lk_here {k : Str} {v : V} {r : List (Str × V)} : List.lookup k ((k, v) :: r) = some v := by
  simp [List.lookup]
theorem lk_past {k g : Str} {v : V} {r : List (Str × V)} (h : (k == g) = false) : List.lookup k ((g, v) :: r) = List.lookup k r := by
  simp only [List.lookup, h]
theorem put_here {f : Str} {v x : V} {r : List (Str × V)} : putF f v ((f, x) :: r) = (f, v) :: r := if_pos rfl
theorem put_past {f g : Str} {v x : V} {r : List (Str × V)} (h : ¬ g = f) : putF f v ((g, x) :: r) = (g, x) :: putF f v r := if_neg h
theorem rdF_text (a : Addr) (p : Nat) {e : Nat} : (rdF a p e).lookup ("text" : Str) = some (.ref a) := lk_here
theorem rdF_place (a : Addr) (p : Nat) {e : Nat} : (rdF a p e).lookup ("place" : Str) = some (.int (p : Nat)) := (lk_past (by decide +kernel)).trans lk_here
theorem rdF_behind (a : Addr) (p : Nat) {e : Nat} : (rdF a p e).lookup ("behind" : Str) = some (.int (e : Nat)) := (lk_past (by decide +kernel)).trans ((lk_past (by decide +kernel)).trans lk_here)
theorem rdF_no (a : Addr) (p : Nat) {e : Nat} {m : Str} (h1 : (m == ("text" : Str)) = false) (h2 : (m == ("place" : Str)) = false) (h3 : (m == ("behind" : Str)) = false := by decide +kernel) : (rdF a p e).lookup m = none := (lk_past h1).trans ((lk_past h2).trans ((lk_past h3).trans rfl))
theorem rdF_put (a : Addr) (p q : Nat) {e : Nat} : putF "place" (.int (q : Nat)) (rdF a p e) = rdF a q e := (put_past (by decide +kernel)).trans (congrArg _ put_here)
theorem rdF_new (a : Addr) (p e : Nat) : putF "behind" (.int (e : Nat)) (putF "place" (.int (p : Nat)) (putF "text" (.ref a) [])) = rdF a p e := by
  show putF "behind" (.int (e : Nat)) (putF "place" (.int (p : Nat)) [("text", .ref a)]) = _
  rw [put_past (by decide +kernel)]
  show putF "behind" (.int (e : Nat)) [("text", .ref a), ("place", .int (p : Nat))] = _
  rw [put_past (by decide +kernel), put_past (by decide +kernel)]
  rfl
theorem sq_kp {K : PySem.W.Frag} {H H' : Hp} {rd a : Addr} {xs : List V} {C dx : Addr} {fs : List (Str × V)} (hr : H rd = some (.ins C dx fs)) (k : Kp rd H H') (h : SqL K H a xs) : SqL K H' a xs := by
  rcases h with (h | ⟨o, h⟩) | h
  · exact .inl (.inl (k _ _ h (ne_of h hr (by intro z; cases z))))
  · exact .inl (.inr ⟨o, k _ _ h (ne_of h hr (by intro z; cases z))⟩)
  · exact .inr h
theorem sqT_kp {K : PySem.W.Frag} {H H' : Hp} {rd a : Addr} {xs : List V} {C dx : Addr} {fs : List (Str × V)} (hr : H rd = some (.ins C dx fs)) (k : Kp rd H H') (h : SqT K H a xs) : SqT K H' a xs := by
  rcases h with (h | ⟨o, h⟩) | h
  · exact .inl (.inl (k _ _ h (ne_of h hr (by intro z; cases z))))
  · exact .inl (.inr ⟨o, k _ _ h (ne_of h hr (by intro z; cases z))⟩)
  · exact .inr h
theorem sqT_same {K : PySem.W.Frag} {H H' : Hp} {a : Addr} {xs : List V} (k : Same H H') (h : SqT K H a xs) : SqT K H' a xs := by
  rcases h with (h | ⟨o, h⟩) | h
  · exact .inl (.inl (k _ _ h))
  · exact .inl (.inr ⟨o, k _ _ h⟩)
  · exact .inr h
theorem TxtAt.kp {K : PySem.W.Frag} {H H' : Hp} {rd a : Addr} {b : Fh.Bytes} {C dx : Addr} {fs : List (Str × V)} (hr : H rd = some (.ins C dx fs)) (k : Kp rd H H') (h : TxtAt K H a b) : TxtAt K H' a b := by
  obtain ⟨full, h1, h2⟩ := h
  exact ⟨full, sq_kp hr k h1, h2⟩
theorem TxtAt.same {K : PySem.W.Frag} {H H' : Hp} {a : Addr} {b : Fh.Bytes} (h : TxtAt K H a b) (s : Same H H') : TxtAt K H' a b := by
  obtain ⟨full, h1, h2⟩ := h
  exact ⟨full, s.seq h1, h2⟩
theorem RdAt.same {CR : Addr} {K : PySem.W.Frag} {H H' : Hp} {rd : Addr} {b : Fh.Bytes} {p : Nat} (h : RdAt CR K H rd b p) (s : Same H H') : RdAt CR K H' rd b p := by
  obtain ⟨⟨a, dx, h1, h2⟩, h3⟩ := h
  exact ⟨⟨a, dx, s _ _ h1, h2.same s⟩, h3⟩
/-- the ends of what reads -/
def ftF (q : Nat) : List (Str × V) := [("place", .int (q : Nat)), ("number", .int (-5))]
def Bad (CF : Addr) (E : XK) (q : Nat) : Prop := ∀ (d : Addr) (H' : Hp), H' d = some (.xd (ftF q)) → E (.ref CF) (some d) H'
/-- an error of class C that tells the number n -/
def Gone (C : Addr) (n : Int) (E : XK) : Prop := ∀ (d : Addr) (H' : Hp), H' d = some (.xd [("number", .int n)]) → E (.ref C) (some d) H'
def Good (CR : Addr) (K : PySem.W.Frag) (H : Hp) (rd : Addr) (b : Fh.Bytes) (p q : Nat) (k : Hp → Prop) : Prop := ∀ H' : Hp, RdAt CR K H' rd b q → p < q → Kp rd H H' → k H'
def Out {α : Type} (r : Except Nat (α × Nat)) (p : Nat) (good : α → Nat → Prop) (bad : Nat → Prop) : Prop := match r with
  | .ok x => good x.1 (p + x.2)
  | .error k => bad (p + k)
def OutA {α : Type} (r : Except Nat (α × Nat)) (good : α → Nat → Prop) (bad : Nat → Prop) : Prop := match r with
  | .ok x => good x.1 x.2
  | .error k => bad k
/-! ### the promises of the Reader's methods -/
section
variable (CF CR : Addr) (K : PySem.W.Frag)
def spFault : Sp := fun vs H Q _ => ∃ (p : Addr) (n : Nat), vs = [.ref p, .int (n : Nat)] ∧ H p = some (exo p CF none) ∧ ∀ (H' : Hp) (dx : Addr), H dx = none → H' p = some (exo p CF (some dx)) → H' dx = some (exd dx (ftF n)) → Q .non H'
def spGoneI (C : Addr) (n : Int) : Sp := fun vs H Q _ => ∃ (p : Addr), vs = [.ref p] ∧ H p = some (exo p C none) ∧ ∀ (H' : Hp) (dx : Addr), H dx = none → H' p = some (exo p C (some dx)) → H' dx = some (exd dx [("number", .int n)]) → Q .non H'
def spRefI : Sp := fun vs H Q _ => ∃ (p C : Addr) (n : Int), vs = [.ref p, .int n] ∧ OexC K C ∧ PySem.W.findIn K (.ref C) "number" = some none ∧ H p = some (exo p C none) ∧ ∀ dx, H dx = none → dx ≠ p → Q .non (upd (upd H dx (exd dx [("number", .int n)])) p (exo p C (some dx)))
def spRdI : Sp := fun vs H Q _ => ∃ (p dx a : Addr) (f e : Nat), vs = [.ref p, .ref a, .int (f : Nat), .int (e : Nat)] ∧ H p = some (.ins CR dx []) ∧ ∀ H' : Hp, H' p = some (.ins CR dx (rdF a f e)) → (∀ b o, H b = some o → b ≠ p → H' b = some o) → Q .non H'
def spEnded : Sp := fun vs H Q _ => ∃ (rd : Addr) (b : Fh.Bytes) (p : Nat), vs = [.ref rd] ∧ RdAt CR K H rd b p ∧ Q (.bl (decide (p = b.length))) H
def spLook : Sp := fun vs H Q _ => ∃ (rd : Addr) (b : Fh.Bytes) (p : Nat), vs = [.ref rd] ∧ RdAt CR K H rd b p ∧ Q (.int (lk (b.drop p) : Nat)) H
def spTake : Sp := fun vs H Q E => ∃ (rd wa : Addr) (b : Fh.Bytes) (p : Nat) (ws : List Nat), vs = [.ref rd, .ref wa] ∧ RdAt CR K H rd b p ∧ SqL K H wa (ws.map fun (n : Nat) => V.int (n : Nat)) ∧ (∀ n ∈ ws, n < 256) ∧
  (lk (b.drop p) ∈ ws → Good CR K H rd b p (p + 1) fun H' => Q (.int (lk (b.drop p) : Nat)) H') ∧ (¬ lk (b.drop p) ∈ ws → Bad CF E p)
/-- ranges handed over -/
def RgAt (H : Hp) (a : Addr) (rs : List (Nat × Nat)) : Prop := ∃ ts : List Addr, SqL K H a (ts.map V.ref) ∧ ts.length = rs.length ∧ ∀ (i : Nat) (t : Addr), ts[i]? = some t → ∃ r : Nat × Nat, rs[i]? = some r ∧ SqT K H t [.int (r.1 : Nat), .int (r.2 : Nat)]
def spNumber : Sp := fun vs H Q E => ∃ (rd ra : Addr) (b : Fh.Bytes) (p : Nat) (rs : List (Nat × Nat)), vs = [.ref rd, .ref ra] ∧ RdAt CR K H rd b p ∧ RgAt K H ra rs ∧ rs.length ≤ 1000 ∧ (∀ r ∈ rs, r.2 < 10 ^ 8) ∧
  Out (Fh.numberHere (canR rs) (finR rs) (b.drop p)) p (fun v q => Good CR K H rd b p q fun H' => Q (.int (v : Nat)) H') (Bad CF E)
def spChar : Sp := fun vs H Q E => ∃ (rd : Addr) (b : Fh.Bytes) (p : Nat), vs = [.ref rd] ∧ RdAt CR K H rd b p ∧
  Out (Fh.charHere (b.drop p)) p (fun v q => Good CR K H rd b p q fun H' => Q (.int (v : Nat)) H') (Bad CF E)
end
def spLeads : Sp := fun vs H Q _ => ∃ v lo hi : Nat, vs = [.int (v : Nat), .int (lo : Nat), .int (hi : Nat)] ∧ hi < 10 ^ 8 ∧ Q (.bl (Fh.begins lo hi v)) H
def spIsCh : Sp := fun vs H Q _ => ∃ v : Nat, vs = [.int (v : Nat)] ∧ Q (.bl (isCh v)) H
def spFirst : Sp := fun vs H Q _ => ∃ v : Nat, vs = [.int (v : Nat)] ∧ ∀ p, H p = none → Q (.ref p) (upd H p (.tup [.int (firstN v : Nat), .int (firstV v : Nat)]))
end Sg

/-! SgExc -/
set_option Elab.async false
set_option linter.all false
set_option maxRecDepth 100000
set_option maxHeartbeats 4000000
/-! ### own errors whose making calls that of their own base -/
namespace Sg
open PySem PySem.Spec PyProof.Rows L2
/-- the program's base of its errors, as a class whose __init__ is asked for by name -/
structure TxRef (K : PySem.W.Frag) (mg : Str → Option Value) (B fB : Addr) : Prop where
  g : mg "Refusal" = some (.ref B)
  rd : PySem.W.readsIn K B (.type "type") = true
  ga : PySem.W.specialIn K (.ref B) "__getattribute__" = some (some (.builtin "type.__getattribute__"))
  cl : PySem.W.findCls K (.ref B) (.type "type") "__init__" = some (.val (.ref fB))
  kp : PySem.W.keepIn K (.ref fB) = true
section
variable {X : Cx} {CX : CXT} {k : Nat} {B fB : Addr} {fd : FuncData} {ps : List Str} {sp : Sp} {E : XK} {np ap cp : Pos} {e : Expr} {es : List Expr} {t : TA}
/-- Refusal.__init__(self, ..) -/
theorem pe_binit {pl : Sem Bool} (T : TxRef X.K X.mg B fB) (G : FnOk X.prog X.w X.K X.mg X.base CX k fB fd ps sp) (room : Room k X.A) (gl : Gl X "Refusal") (b : Binds X.K fd ps []) (out : Passes CX X E) (args : PA X (e :: es) t)
    (cut : starEach (e :: es) X.env = (false, eval e X.env) :: starEach es X.env := by rfl) (flat : (backTo cp (starEach es X.env)).any (·.1) = false := by rfl)
    (form : eval (.Call (.Attribute (.Name "Refusal" np) "__init__" ap) (e :: es) [] cp) X.env = (do
        let ov ← eval (.Name "Refusal" np) X.env
        standAt ap.atName
        let (f, first) ← holding [ov] (getMethod ov "__init__" pl)
        callWith cp f first (backTo cp (starEach (e :: es) X.env)) (backToKw cp (keywordEach [] X.env))) := by rfl) :
    PE X (.Call (.Attribute (.Name "Refusal" np) "__init__" ap) (e :: es) [] cp) (tCall sp [] E t) := by
  constructor
  intro pins s σ H Q I wish
  refine PySem.W.methodCall_KW (pl := pl) (ld_glob I gl T.g ?_ (by decide)) form
  refine PySem.W.method_cls I.kIn T.ga (PySem.W.cls_value I.kIn T.rd T.cl rfl ?_)
  have J := I.tok (s.toks + 1)
  refine PySem.W.callWith_K (first := []) (h₀ := X.base) I.ok.mod.kin T.kp ?_ cut flat
  exact thn (args.run cp pins _ σ H _ J wish) fun us s2 hh => by
    obtain ⟨vs, H2, I2, rel, want⟩ := hh
    exact ⟨I2.kIn, run_fn G room b .nil out I2 rel want⟩
end
/-! ### an own error made without arguments -/
structure GoneOk (P : Program) (w : World) (K : PySem.W.Frag) (mg : Str → Option Value) (base : Heap) (x : Str) (C : Addr) (n : Int) : Prop where
  ex : ∃ fI fd, OexC K C ∧ mg x = some (.ref C) ∧ PySem.W.findIn K (.ref C) "__init__" = some (some (.ref fI)) ∧ PySem.W.typeIn K (.ref fI) = some (.type "function") ∧ Binds K fd ["self"] [] ∧ FnOk P w K mg base CX0 2 fI fd ["self"] (spGoneI C n)
section
variable {X : Cx} {C : Addr} {x : Str} {n : Int} {np cp : Pos}
theorem pmk_gone (G : GoneOk X.prog X.w X.K X.mg X.base x C n) (room : Room 3 X.A) (gl : Gl X x) (ndb : (x == ("__debug__" : Str)) = false := by decide) :
    PMk X (.Call (.Name x np) [] [] cp) (fun σ H Q => ∀ (d : Addr) (H' : Hp), H' d = some (.xd [("number", .int n)]) → Q (.ref C) (some d) H') := by
  intro pins s σ H Q I wish
  obtain ⟨fI, fd, T, hm, hi, ht, hb, G⟩ := G.ex
  obtain ⟨nm, qn, N, bs, bm, sn, sub, ab, col, dd, k0, k1, k2, k3, k5, lkC, mro⟩ := id T.cls
  refine wpAny_Call_Name_kw (ld_glob I gl hm ?_ ndb)
  refine PySem.W.callWith_K0 I.kIn T.kC ?_
  obtain ⟨hp, gens, dr, tk, os⟩ := s
  have old : ∀ b o, hp.get? b = some o → ((hp.push (PySem.W.kdv_tup [])).push (PySem.HandSPX.excO C hp.objs.size)).get? b = some o := fun b o h0 => Heap.get?_push_of_some _ (Heap.get?_push_of_some _ h0)
  have new : ((hp.push (PySem.W.kdv_tup [])).push (PySem.HandSPX.excO C hp.objs.size)).get? (hp.objs.size + 1) = some (PySem.HandSPX.excO C hp.objs.size) := by heap_get
  have past : hp.objs.size ≤ hp.objs.size + 1 := Nat.le_add_right _ 1
  have J : Inv X pins σ (upd H (hp.objs.size + 1) (exo (hp.objs.size + 1) C none)) ⟨(hp.push (PySem.W.kdv_tup [])).push (PySem.HandSPX.excO C hp.objs.size), gens, dr, tk, os⟩ := by
    refine Inv.laid (t' := tk) (a := hp.objs.size + 1) (o := exo (hp.objs.size + 1) C none) I old past (exo_ok new)
  have sp : spGoneI C n [.ref (hp.objs.size + 1)] (upd H (hp.objs.size + 1) (exo (hp.objs.size + 1) C none)) (fun v H2 => v = .non ∧ ∃ (d : Addr), H2 (hp.objs.size + 1) = some (exo (hp.objs.size + 1) C (some d)) ∧ H2 d = some (exd d [("number", .int n)]) ∧ H d = none) (fun _ _ _ => False) := by
    refine ⟨_, rfl, upd_same, fun H' dx h0 h1 h2 => ⟨rfl, dx, h1, h2, ?_⟩⟩
    by_cases z : dx = hp.objs.size + 1
    · rw [z, upd_same] at h0
      cases h0
    · rw [upd_ne z] at h0
      exact h0
  have few : ([] : List Value).length ≤ sizeLine := Nat.zero_le _
  refine wpAny_call (PySem.HandSPX.call_own F.excBase_ValueError (fun Y => PySem.HandSPX.refsVE_contains Y bm mro) (I.kIn _ _ lkC) (PySem.W.looks_findIn I.kIn hi) (fun self => PySem.W.bind_fn I.kIn self ht) few ?_)
  refine codeAny_mono (G.run _ X.stack _ _ ⟨[Value.ref (hp.objs.size + 1)], []⟩ [Value.ref (hp.objs.size + 1)] _ _ (fun _ _ _ => False) (room.make C [] []) (J.env0.make C [] []) (hb _ [Value.ref (hp.objs.size + 1)] J.kIn rfl) (show Vals [V.ref (hp.objs.size + 1)] [Value.ref (hp.objs.size + 1)] from .cons rfl .nil) sp) fun res s' post => ?_
  match res, post with
  | .error er, post => exact pass0 pins σ _ _ er s' J post
  | .ok .next, post => exact post.elim
  | .ok .brk, post => exact post.elim
  | .ok .cont, post => exact post.elim
  | .ok (.ret u), post =>
    obtain ⟨v, H2, sameOs, bare, un, hok, rv, ev, d, ea, ed, hd⟩ := post
    subst ev
    obtain ⟨h2, g2, d2, t2, os2⟩ := s'
    exact ⟨rv, mk_end (raises_own T.exC T.tyC) I past old un hok sameOs bare ea ed hd (wish d _ upd_same)⟩
end
/-! ### what a caught error tells, whichever class it is of -/
def tXfA (K : PySem.W.Frag) (a : Addr) (cls : Value) (d : Option Addr) (i : Nat) (f : Str) : TE := fun σ H Q => σ[i]? = some (some (.ref a)) ∧ ∃ (C dd : Addr) (fs : List (Str × V)) (v : V), cls = .ref C ∧ XfC K C ∧ PySem.W.findIn K (.ref C) f = some none ∧ d = some dd ∧ H dd = some (.xd fs) ∧ fs.lookup f = some v ∧ Q v H
theorem pe_xfA {X : Cx} {a : Addr} {oe : Obj} {cls : Value} {d : Option Addr} {pn : List (Addr × Obj)} {e : Expr} {i : Nat} {pos : Pos} {f : Str} (hz : Zc cls d oe) (hf : ∃ vs, oe.data = .fields vs) (he : PE (X.suite a ((a, oe) :: pn)) e (tVar i))
    (hb : attributeBase e f X.env (eval e X.env) = eval e X.env := by rfl) : PE (X.suite a ((a, oe) :: pn)) (.Attribute e f pos) (tXfA X.K a cls d i f) := by
  constructor
  intro pins s σ H Q I wish
  obtain ⟨hs, C, dd, fs, v, rfl, T, no, rfl, hd, hl, q⟩ := wish
  exact (pe_xf (C := C) (pos := pos) T no hz hf he hb).run pins s σ H Q I ⟨_, hs, rfl, rfl, dd, fs, v, rfl, hd, hl, q⟩
end Sg

/-! SgN -/
set_option Elab.async false
set_option linter.all false
set_option maxRecDepth 100000
set_option maxHeartbeats 4000000
/-! ### exceptions raised where none is handled: their context is None -/
namespace Sg
open PySem PySem.Spec PyProof.Rows L2
theorem flyN {B h : Heap} {l : List Env} {a : Addr} {cls : Value} {d : Option Addr} (x : HandSPX.FlyingZ B l a (L2N.Zn cls d) h) : HandSPX.FlyingZ B l a (Zc cls d) h := by
  obtain ⟨h1, h2, h3, oe, vs, Tb, oT, ts, e1, e2, e3⟩ := x
  exact ⟨h1, h2, h3, oe, vs, Tb, oT, ts, e1, e2.zc, e3⟩
theorem cxN {P : Program} {w : World} {outer : List Env} {H : Hp} {s s' : Shared} {E : XK} {u : Value} (c : L2N.CX P w outer H s E u s') : L2.CX P w outer H s E u s' := by
  obtain ⟨a, B, H', cls, d, h0, fl, rest⟩ := c
  exact ⟨a, B, H', cls, d, h0, flyN fl, rest⟩
section
variable {P : Program} {w : World} {K : PySem.W.Frag} {mg : Str → Option Value} {base : Heap} {k : Nat} {f C : Addr} {fd : FuncData} {x m : Str} {ps : List Str} {sp : Sp}
theorem fn_any (F : FnOk P w K mg base (L2N.CX P w) k f fd ps sp) : FnOk P w K mg base (L2.CX P w) k f fd ps sp := by
  refine ⟨F.len, fun A outer s H args us vs Q E r e b v p => codeAny_mono (F.run A outer s H args us vs Q E r e b v p) fun res t h => ?_⟩
  match res, h with
  | .error er, h => exact cxN h
  | .ok (.ret u), h => exact h
  | .ok .next, h => exact h
  | .ok .brk, h => exact h
  | .ok .cont, h => exact h
theorem CallOk.any (G : CallOk P w K mg base (L2N.CX P w) k x ps sp) : CallOk P w K mg base (L2.CX P w) k x ps sp := by
  obtain ⟨f, fd, h1, h2, h3, h4⟩ := G.ex
  exact ⟨f, fd, h1, h2, h3, fn_any h4⟩
/-- as Fun.okX, for a def whose exceptions' context is None -/
theorem okN {qual : Str} {st : Stmt} {N : List Str} (F : Fun K x qual st f fd) (S : FnScope N ps (defScope st)) (len : ∀ vs H Q E, sp vs H Q E → vs.length = ps.length)
    (reading : ∀ (cdv : Value) (A : Around) (outer : List Env) (s : Shared) (H : Hp) (vs : List V) (Q : VK) (E : XK), Room k (A.deeper (envOfC qual (defScope st) s.heap.objs.size f cdv)) → sp vs H Q E →
      ∃ t, PSs (cxOf (L2N.CX P w) P w K mg base N qual (defScope st) f cdv A outer s H E) (defBody st) t ∧ t { nx := fun _ H' => Q .non H', rt := Q } (start N vs) H) : FnOk P w K mg base (L2N.CX P w) (k + 1) f fd ps sp := by
  obtain ⟨oc, od, kV, doc, pm, an, cdv, ct, osl, rfl, lk, hcd⟩ := F.ex
  refine fn_of lk hcd S len ?_
  intro A outer s H vs Q E hr hsp
  exact reading cdv A outer s H vs Q E hr hsp
end
/-- what a def lets out goes out of its caller -/
theorem passN {X : Cx} {E : XK} {E₁ : Value → Shared → Prop} (hs : X.stack = X.env :: X.outer) (hf : X.env.frame = some X.env.locals) (hex : X.ex = [])
    (hx : X.xe = fun e s' => wpAny (model X.prog X.w) X.A (leaving X.env e) (fun _ s'' => L2N.CX X.prog X.w X.outer X.H_0 X.s_0 E e s'') E₁ s') : Passes (L2N.CX X.prog X.w) X E :=
  L2N.passes_call (L2N.takes_of hs hf hex hx) fun _ _ _ _ h => h
section
variable {X : Cx} {C fI : Addr} {x : Str} {n : Int} {np cp : Pos} {k : Nat} {fd : FuncData} {ps : List Str} {sp : Sp} {e : Expr} {es : List Expr} {ta : TA}
theorem pmk_any {ex : Expr} {t : L2.St → Hp → XK → Prop} (h : L2N.PMk X ex t) : L2.PMk X ex t := by
  intro pins s σ H Q I wish
  refine thn (h pins s σ H Q I wish) fun u s1 made => ?_
  obtain ⟨a, oe, vs, sI, H', cls, d, h1, h2, h3, h4, h5, h6, rest⟩ := made
  exact ⟨a, oe, vs, sI, H', cls, d, h1, h2, h3, h4, h5, h6.zc, rest⟩
/-- E(e, ..), E an own exception class -/
theorem pmk_oexN (T : OexC X.K C) (hi : PySem.W.findIn X.K (.ref C) "__init__" = some (some (.ref fI))) (ht : PySem.W.typeIn X.K (.ref fI) = some (.type "function")) (G : FnOk X.prog X.w X.K X.mg X.base CX0 k fI fd ps sp) (room : Room (k + 1) X.A) (b : Binds X.K fd ps [])
    (_none : Vals ([] : List V) ([] : List Value)) (out : Passes CX0 X (fun _ _ _ => False)) (gl : Gl X x) (hm : X.mg x = some (.ref C)) (args : PA X (e :: es) ta) (ndb : (x == ("__debug__" : Str)) = false := by decide)
    (cut : starEach (e :: es) X.env = (false, eval e X.env) :: starEach es X.env := by rfl) (flat : (backTo cp (starEach es X.env)).any (·.1) = false := by rfl) : L2N.PMk X (.Call (.Name x np) (e :: es) [] cp) (tMkO C sp [] ta) := by
  intro pins s σ H Q I wish
  obtain ⟨nm, qn, N, bs, bm, sn, sub, ab, col, dd, k0, k1, k2, k3, k5, lkC, mro⟩ := id T.cls
  refine wpAny_Call_Name_kw (ld_glob I gl hm ?_ ndb)
  refine PySem.W.callWith_K (h₀ := X.base) I.ok.mod.kin T.kC (thn (args.run cp pins s σ H _ I wish) fun us s1 got => ?_) cut flat
  obtain ⟨vs, H1, I1, rel, most, next⟩ := got
  refine ⟨I1.kIn, ?_⟩
  obtain ⟨hp, gens, dr, tk, os⟩ := s1
  have old : ∀ b o, hp.get? b = some o → ((hp.push (PySem.W.kdv_tup us)).push (PySem.HandSPX.excO C hp.objs.size)).get? b = some o := fun b o h0 => Heap.get?_push_of_some _ (Heap.get?_push_of_some _ h0)
  have new : ((hp.push (PySem.W.kdv_tup us)).push (PySem.HandSPX.excO C hp.objs.size)).get? (hp.objs.size + 1) = some (PySem.HandSPX.excO C hp.objs.size) := by heap_get
  have past : hp.objs.size ≤ hp.objs.size + 1 := Nat.le_add_right _ 1
  have J : Inv X pins σ (upd H1 (hp.objs.size + 1) (exo (hp.objs.size + 1) C none)) ⟨(hp.push (PySem.W.kdv_tup us)).push (PySem.HandSPX.excO C hp.objs.size), gens, dr, tk, os⟩ := by
    refine Inv.laid (t' := tk) (a := hp.objs.size + 1) (o := exo (hp.objs.size + 1) C none) I1 old past (exo_ok new)
  have free : H1 (hp.objs.size + 1) = none := I1.hok.fresh past
  have spec := next (hp.objs.size + 1) free
  rw [List.append_nil] at spec
  have rel2 : Vals (V.ref (hp.objs.size + 1) :: vs) (Value.ref (hp.objs.size + 1) :: us) := .cons rfl rel
  have cnt : (Value.ref (hp.objs.size + 1) :: us).length = ps.length := by rw [← rel2.length]; exact G.len _ _ _ _ spec
  have few : us.length ≤ sizeLine := by
    rw [← rel.length, sizeLine_eq]
    omega
  have bnd := b ⟨(hp.push (PySem.W.kdv_tup us)).push (PySem.HandSPX.excO C hp.objs.size), gens, dr, tk, os⟩ (Value.ref (hp.objs.size + 1) :: us) J.kIn (by rw [List.append_nil]; exact cnt)
  rw [List.append_nil] at bnd
  refine wpAny_call (PySem.HandSPX.call_own F.excBase_ValueError (fun Y => PySem.HandSPX.refsVE_contains Y bm mro) (I1.kIn _ _ lkC) (PySem.W.looks_findIn I1.kIn hi) (fun self => PySem.W.bind_fn I1.kIn self ht) few ?_)
  refine codeAny_mono (G.run _ X.stack _ _ ⟨Value.ref (hp.objs.size + 1) :: us, []⟩ (Value.ref (hp.objs.size + 1) :: us) _ _ (fun _ _ _ => False) (room.make C us []) (J.env0.make C us []) bnd rel2 spec) fun res s' post => ?_
  match res, post with
  | .error er, post => exact out pins σ _ _ er s' J post
  | .ok .next, post => exact post.elim
  | .ok .brk, post => exact post.elim
  | .ok .cont, post => exact post.elim
  | .ok (.ret u), post =>
    obtain ⟨v, H2, sameOs, bare, un, hok, rv, ev, d, fs, ea, ed, hd, last⟩ := post
    subst ev
    obtain ⟨h2, g2, d2, t2, os2⟩ := s'
    obtain ⟨t0, Gr, J2, keepG, noG, isE, noA⟩ := mk_end0 (d2 := d2) (t2 := t2) I1 past old un hok sameOs bare ea ed hd
    refine ⟨rv, hp.objs.size + 1, _, _, ⟨Gr, g2, d2, t2, os2⟩, _, .ref C, some d, rfl, J2, keepG, noG, isE, ⟨rfl, rfl, fun fv hv => ?_⟩, rfl, rfl, noA, rfl, bare, raises_own T.exC T.tyC, last⟩
    cases hv
    rfl
theorem pmk_goneN (G : GoneOk X.prog X.w X.K X.mg X.base x C n) (room : Room 3 X.A) (gl : Gl X x) (ndb : (x == ("__debug__" : Str)) = false := by decide) :
    L2N.PMk X (.Call (.Name x np) [] [] cp) (fun σ H Q => ∀ (d : Addr) (H' : Hp), H' d = some (.xd [("number", .int n)]) → Q (.ref C) (some d) H') := by
  intro pins s σ H Q I wish
  obtain ⟨fI, fd, T, hm, hi, ht, hb, G⟩ := G.ex
  obtain ⟨nm, qn, N, bs, bm, sn, sub, ab, col, dd, k0, k1, k2, k3, k5, lkC, mro⟩ := id T.cls
  refine wpAny_Call_Name_kw (ld_glob I gl hm ?_ ndb)
  refine PySem.W.callWith_K0 I.kIn T.kC ?_
  obtain ⟨hp, gens, dr, tk, os⟩ := s
  have old : ∀ b o, hp.get? b = some o → ((hp.push (PySem.W.kdv_tup [])).push (PySem.HandSPX.excO C hp.objs.size)).get? b = some o := fun b o h0 => Heap.get?_push_of_some _ (Heap.get?_push_of_some _ h0)
  have new : ((hp.push (PySem.W.kdv_tup [])).push (PySem.HandSPX.excO C hp.objs.size)).get? (hp.objs.size + 1) = some (PySem.HandSPX.excO C hp.objs.size) := by heap_get
  have past : hp.objs.size ≤ hp.objs.size + 1 := Nat.le_add_right _ 1
  have J : Inv X pins σ (upd H (hp.objs.size + 1) (exo (hp.objs.size + 1) C none)) ⟨(hp.push (PySem.W.kdv_tup [])).push (PySem.HandSPX.excO C hp.objs.size), gens, dr, tk, os⟩ := by
    refine Inv.laid (t' := tk) (a := hp.objs.size + 1) (o := exo (hp.objs.size + 1) C none) I old past (exo_ok new)
  have sp : spGoneI C n [.ref (hp.objs.size + 1)] (upd H (hp.objs.size + 1) (exo (hp.objs.size + 1) C none)) (fun v H2 => v = .non ∧ ∃ (d : Addr), H2 (hp.objs.size + 1) = some (exo (hp.objs.size + 1) C (some d)) ∧ H2 d = some (exd d [("number", .int n)]) ∧ H d = none) (fun _ _ _ => False) := by
    refine ⟨_, rfl, upd_same, fun H' dx h0 h1 h2 => ⟨rfl, dx, h1, h2, ?_⟩⟩
    by_cases z : dx = hp.objs.size + 1
    · rw [z, upd_same] at h0
      cases h0
    · rw [upd_ne z] at h0
      exact h0
  have few : ([] : List Value).length ≤ sizeLine := Nat.zero_le _
  refine wpAny_call (PySem.HandSPX.call_own F.excBase_ValueError (fun Y => PySem.HandSPX.refsVE_contains Y bm mro) (I.kIn _ _ lkC) (PySem.W.looks_findIn I.kIn hi) (fun self => PySem.W.bind_fn I.kIn self ht) few ?_)
  refine codeAny_mono (G.run _ X.stack _ _ ⟨[Value.ref (hp.objs.size + 1)], []⟩ [Value.ref (hp.objs.size + 1)] _ _ (fun _ _ _ => False) (room.make C [] []) (J.env0.make C [] []) (hb _ [Value.ref (hp.objs.size + 1)] J.kIn rfl) (show Vals [V.ref (hp.objs.size + 1)] [Value.ref (hp.objs.size + 1)] from .cons rfl .nil) sp) fun res s' post => ?_
  match res, post with
  | .error er, post => exact pass0 pins σ _ _ er s' J post
  | .ok .next, post => exact post.elim
  | .ok .brk, post => exact post.elim
  | .ok .cont, post => exact post.elim
  | .ok (.ret u), post =>
    obtain ⟨v, H2, sameOs, bare, un, hok, rv, ev, d, ea, ed, hd⟩ := post
    subst ev
    obtain ⟨h2, g2, d2, t2, os2⟩ := s'
    obtain ⟨t0, Gr, J2, keepG, noG, isE, noA⟩ := mk_end0 (d2 := d2) (t2 := t2) I past old un hok sameOs bare ea ed hd
    refine ⟨rv, hp.objs.size + 1, _, _, ⟨Gr, g2, d2, t2, os2⟩, _, .ref C, some d, rfl, J2, keepG, noG, isE, ⟨rfl, rfl, fun fv hv => ?_⟩, rfl, rfl, noA, rfl, bare, raises_own T.exC T.tyC, wish d _ upd_same⟩
    cases hv
    rfl
end
end Sg

/-! SgIdx -/
set_option Elab.async false
set_option linter.all false
namespace Sg
open PySem PySem.Spec PyProof.Rows L2
def topS (i : Nat) : Stmt := PySem.Challenge.pw_segmentrules_s06_segs.main.body.getD i (.Pass ⟨0, 0, 0, 0⟩)
abbrev sFaultI : Stmt := inClass (topS 5) 0
abbrev sIsCh : Stmt := topS 21
abbrev sFirst : Stmt := topS 22
abbrev sLeads : Stmt := topS 23
abbrev sRdI : Stmt := inClass (topS 25) 0
abbrev sEnded : Stmt := inClass (topS 25) 1
abbrev sLook : Stmt := inClass (topS 25) 2
abbrev sTake : Stmt := inClass (topS 25) 3
abbrev sNumber : Stmt := inClass (topS 25) 4
abbrev sChar : Stmt := inClass (topS 25) 5
abbrev sItemI : Stmt := inClass (topS 41) 0
abbrev sRuleI : Stmt := inClass (topS 42) 0
abbrev sSetI : Stmt := inClass (topS 43) 0
abbrev sRange : Stmt := topS 44
abbrev sRanges : Stmt := topS 45
abbrev sClasses : Stmt := topS 46
abbrev sCertain : Stmt := topS 47
abbrev sAtom : Stmt := topS 48
abbrev sItem : Stmt := topS 49
abbrev sBefore : Stmt := topS 50
abbrev sBehind : Stmt := topS 51
abbrev sRule : Stmt := topS 52
abbrev sRules : Stmt := topS 53
abbrev sItemsB : Stmt := topS 54
abbrev sBeyond : Stmt := topS 55
abbrev sChecked : Stmt := topS 56
abbrev sPiece : Stmt := topS 72
abbrev sRow : Stmt := topS 73
abbrev sHalves : Stmt := topS 75
abbrev sPaired : Stmt := topS 76
abbrev sInR : Stmt := topS 58
abbrev sPaI : Stmt := inClass (topS 59) 0
abbrev sTkU : Stmt := inClass (topS 59) 1
abbrev sWIn : Stmt := inClass (topS 59) 2
abbrev sWCer : Stmt := inClass (topS 59) 3
abbrev sWAtom : Stmt := inClass (topS 59) 4
abbrev sFwd : Stmt := inClass (topS 59) 5
abbrev sBack : Stmt := inClass (topS 59) 6
abbrev sSays : Stmt := inClass (topS 59) 7
abbrev sWCut : Stmt := inClass (topS 59) 8
abbrev sCuts : Stmt := topS 60
abbrev sRefI : Stmt := inClass (topS 3) 0
abbrev sBigI : Stmt := inClass (topS 4) 0
abbrev sBeyI : Stmt := inClass (topS 7) 0
abbrev sFoKI : Stmt := inClass (topS 6) 0
abbrev sReadAs : Stmt := topS 8
abbrev sRowI : Stmt := inClass (topS 70) 0
abbrev sPartI : Stmt := inClass (topS 71) 0
abbrev sChars : Stmt := topS 74
abbrev sCutB : Stmt := topS 96
abbrev sStr : Stmt := topS 97
abbrev sHasS : Stmt := topS 98
abbrev sTrim : Stmt := topS 99
abbrev sSegs : Stmt := topS 100
abbrev sSize : Stmt := topS 105
abbrev sLEnd : Stmt := topS 24
abbrev sLineI : Stmt := inClass (topS 83) 0
abbrev sRaw : Stmt := topS 84
abbrev sPRow : Stmt := topS 85
abbrev sRLine : Stmt := topS 86
abbrev sRDoc : Stmt := topS 87
abbrev sByL : Stmt := topS 101
abbrev sNbd : Stmt := topS 102
abbrev sLaS : Stmt := topS 106
abbrev sDoS : Stmt := topS 107
abbrev sSign : Stmt := topS 90
abbrev sWords : Stmt := topS 91
abbrev sForm : Stmt := topS 92
abbrev sEarl : Stmt := topS 93
abbrev sTopD : Stmt := topS 108
abbrev kMC : Str := "MOST_CHARACTERS_rulestext"
end Sg

/-! SgRd -/
set_option Elab.async false
set_option linter.all false
set_option maxRecDepth 100000
set_option maxHeartbeats 4000000
namespace Sg
open PySem PySem.Spec PyProof.Rows L2
structure TxF (K : PySem.W.Frag) (mg : Str → Option Value) (CF : Addr) : Prop where
  ox : OexC K CF
  xf : XfC K CF
  np : PySem.W.findIn K (.ref CF) "place" = some none
  nn : PySem.W.findIn K (.ref CF) "number" = some none
  g : mg "Fault" = some (.ref CF)
structure TxR (K : PySem.W.Frag) (mg : Str → Option Value) (CR : Addr) : Prop where
  cl : Cls K CR
  nt : NoAttr K CR "text"
  np : NoAttr K CR "place"
  nb : NoAttr K CR "behind"
structure TxC (mg : Str → Option Value) : Prop where
  len : mg "len" = none
  any : mg "any" = none
  range : mg "range" = none
  noByte : ∃ t, mg "NO_BYTE" = some (.int 256 t)
  lastN : ∃ t, mg "LAST_NUMBER" = some (.int 1114111 t)
  nought : ∃ t, mg "NOUGHT" = some (.int 48 t)
  nine : ∃ t, mg "NINE" = some (.int 57 t)
section
variable {P : Program} {w : World} {K : PySem.W.Frag} {mg : Str → Option Value} {base : Heap} {CF CR : Addr}
/-! ### is_character, first_byte -/
theorem scIsCh : FnScope ["number"] ["number"] (defScope sIsCh) := ⟨rfl, rfl, rfl, by decide +kernel, rfl, by decide +kernel, by decide +kernel⟩
theorem scFaultI : FnScope ["self", "place"] ["self", "place"] (defScope sFaultI) := ⟨rfl, rfl, rfl, by decide +kernel, rfl, by decide +kernel, by decide +kernel⟩
theorem scRefI : FnScope ["self", "number"] ["self", "number"] (defScope sRefI) := ⟨rfl, rfl, rfl, by decide +kernel, rfl, by decide +kernel, by decide +kernel⟩
theorem ok_refI {f : Addr} {fd : FuncData} (F : Fun K "__init__" "Refusal.__init__" sRefI f fd) : FnOk P w K mg base CX0 1 f fd ["self", "number"] (spRefI K) := by
  refine F.ok scRefI (fun vs H Q E h => ?_) (fun cdv A outer s H vs Q E hr h => ?_)
  · obtain ⟨p, C, n, rfl, _⟩ := h
    rfl
  · obtain ⟨p, C, n, rfl, T, hno, hp, k⟩ := h
    refine ⟨_, pss_one (ps_ost (pv 0) (pv 1)), ?_⟩
    exact ⟨_, rfl, _, rfl, p, C, rfl, T, hno, .inl ⟨hp, fun dx hd ne => k dx hd ne⟩⟩
theorem ok_faultI {f fB B : Addr} {fd fdB : FuncData} (F : Fun K "__init__" "Fault.__init__" sFaultI f fd) (T : TxF K mg CF) (R : TxRef K mg B fB) (G : FnOk P w K mg base CX0 1 fB fdB ["self", "number"] (spRefI K)) (bB : Binds K fdB ["self", "number"] []) : FnOk P w K mg base CX0 2 f fd ["self", "place"] (spFault CF) := by
  refine F.ok scFaultI (fun vs H Q E h => ?_) (fun cdv A outer s H vs Q E hr h => ?_)
  · obtain ⟨p, n, rfl, _⟩ := h
    rfl
  · obtain ⟨p, n, rfl, hp, k⟩ := h
    refine ⟨_, pss_cons (ps_expr (pe_binit R G hr (by rfl) bB pass0 (by exact (pa_cons (pv 0) (pa_cons (pe_un un_neg pe_int) pa_nil))))) (pss_one (ps_ost (pv 0) (pv 1))), ?_⟩
    refine ⟨_, rfl, _, rfl, p, CF, -5, rfl, T.ox, T.nn, hp, fun dx hd ne => ?_⟩
    refine ⟨_, rfl, _, rfl, p, CF, rfl, T.ox, T.np, .inr ⟨dx, [("number", .int (-5))], upd_same, ?_, (by show 1 ≤ 900; decide), ?_⟩⟩
    · rw [upd_ne ne, upd_same]
    · refine k _ dx hd ?_ upd_same
      rw [upd_ne (Ne.symm ne), upd_same]
theorem scRdI : FnScope ["self", "text", "first", "behind"] ["self", "text", "first", "behind"] (defScope sRdI) := ⟨rfl, rfl, rfl, by decide +kernel, rfl, by decide +kernel, by decide +kernel⟩
theorem ok_rdI {f : Addr} {fd : FuncData} (F : Fun K "__init__" "Reader.__init__" sRdI f fd) (T : TxR K mg CR) : FnOk P w K mg base CX0 2 f fd ["self", "text", "first", "behind"] (spRdI CR) := by
  refine F.ok scRdI (fun vs H Q E h => ?_) (fun cdv A outer s H vs Q E hr h => ?_)
  · obtain ⟨p, dx, a, f, e, rfl, _⟩ := h
    rfl
  · obtain ⟨p, dx, a, f, e, rfl, hp, k⟩ := h
    refine ⟨_, pss_cons (ps_fld (pv 0) (pv 1) rfl) (pss_cons (ps_fld (pv 0) (pv 2) rfl) (pss_one (ps_fld (pv 0) (pv 3) rfl))), ?_⟩
    refine ⟨_, rfl, _, rfl, p, CR, dx, [], rfl, hp, T.cl, T.nt, (by show 0 < 1000; decide), _, rfl, _, rfl, p, CR, dx, _, rfl, upd_same, T.cl, T.np, (by show 1 < 1000; decide), ?_⟩
    refine ⟨_, rfl, _, rfl, p, CR, dx, _, rfl, upd_same, T.cl, T.nb, (by show 2 < 1000; decide), ?_⟩
    refine k _ (Eq.trans upd_same (congrArg (fun q => some (HO.ins CR dx q)) (rdF_new a f e))) fun b o e hb => ?_
    rw [upd_ne hb, upd_ne hb, upd_ne hb]
    exact e
theorem scEnded : FnScope ["self"] ["self"] (defScope sEnded) := ⟨rfl, rfl, rfl, by decide +kernel, rfl, by decide +kernel, by decide +kernel⟩
theorem ok_ended {f : Addr} {fd : FuncData} (F : Fun K "ended" "Reader.ended" sEnded f fd) (T : TxR K mg CR) (TC : TxC mg) : FnOk P w K mg base CX0 2 f fd ["self"] (spEnded CR K) := by
  refine F.ok scEnded (fun vs H Q E h => ?_) (fun cdv A outer s H vs Q E hr h => ?_)
  · obtain ⟨rd, b, p, rfl, _⟩ := h
    rfl
  · obtain ⟨rd, b, p, rfl, ⟨⟨a, dx, h1, h2⟩, hp, hb⟩, k⟩ := h
    refine ⟨_, pss_one (ps_ret (pe_cmpR op_eq (pe_fld (pv 0) rfl) (pe_fld (pv 0) rfl) (nomark _))), ?_⟩
    refine ⟨_, rfl, rd, CR, dx, _, _, rfl, h1, T.cl, T.np, rdF_place _ _, _, rfl, rd, CR, dx, _, _, rfl, h1, T.cl, T.nb, rdF_behind _ _, rfl, ?_⟩
    have e : decide (V.int (p : Nat) = V.int (b.length : Nat)) = decide (p = b.length) := by
      by_cases q : p = b.length
      · rw [q]; simp
      · rw [decide_eq_false q]
        refine decide_eq_false fun z => q ?_
        have := V.int.inj z
        omega
    rw [e]
    exact k
end
end Sg

/-! SgRd2 -/
set_option Elab.async false
set_option linter.all false
set_option maxRecDepth 100000
set_option maxHeartbeats 4000000
namespace Sg
open PySem PySem.Spec PyProof.Rows L2
theorem tst {c A B : Prop} [Decidable c] (h1 : c → A) (h2 : ¬ c → B) : if decide c = true then A else B := by
  by_cases h : c
  · rw [decide_eq_true h]
    exact iteT (h1 h)
  · rw [decide_eq_false h]
    exact iteF (h2 h)
theorem dec_eq {c d : Prop} [Decidable c] [Decidable d] (h : c ↔ d) : decide c = decide d := by
  by_cases q : c
  · rw [decide_eq_true q, decide_eq_true (h.mp q)]
  · rw [decide_eq_false q, decide_eq_false (fun z => q (h.mpr z))]
theorem bv_len (b : Fh.Bytes) : (bv b).length = b.length := by unfold bv; rw [List.length_map]
theorem bv_at {b : Fh.Bytes} {p : Nat} (h : p < b.length) : (bv b)[p]? = some (V.int (lk (b.drop p) : Nat)) := by
  unfold bv
  have e : b.drop p = b[p] :: b.drop (p + 1) := List.drop_eq_getElem_cons h
  rw [List.getElem?_map, e, List.getElem?_eq_getElem h]
  rfl
theorem bv_pre {b full : Fh.Bytes} {p : Nat} (e : b <+: full) (h : p < b.length) : (bv full)[p]? = some (V.int (lk (b.drop p) : Nat)) := by
  obtain ⟨r, rfl⟩ := e
  have h2 : p < (b ++ r).length := by rw [List.length_append]; omega
  rw [bv_at h2, List.drop_append_of_le_length (by omega)]
  have e : b.drop p = b[p] :: b.drop (p + 1) := List.drop_eq_getElem_cons h
  rw [e]
  rfl
theorem lk_end {b : Fh.Bytes} {p : Nat} (h : b.length ≤ p) : lk (b.drop p) = 256 := by
  rw [List.drop_eq_nil_of_le h]
  rfl
theorem lk_lt {b : Fh.Bytes} {p : Nat} (h : lk (b.drop p) < 256) : p < b.length := by
  by_cases q : p < b.length
  · exact q
  · rw [lk_end (by omega)] at h
    omega
theorem t_chain {lo hi x : Int} {σ : L2.St} {H : Hp} {Q : Bool → Hp → Prop} {i : Nat} (hx : σ[i]? = some (some (.int x))) (h1 : lo ≤ x ∧ x ≤ hi → Q true H) (h2 : ¬ (lo ≤ x ∧ x ≤ hi) → Q false H) :
    tTest (tChain (rI0 fun i j => .bl (decide (i ≤ j))) (rI0 fun i j => .bl (decide (i ≤ j))) (tC (.int lo)) (tVar i) (tC (.int hi))) σ H Q := by
  refine ⟨_, hx, _, _, rfl, rfl, _, rfl, tst (fun q => ?_) (fun q => ⟨_, rfl, h2 fun z => q z.1⟩)⟩
  refine ⟨_, _, rfl, rfl, _, rfl, ?_⟩
  by_cases q2 : x ≤ hi
  · rw [decide_eq_true q2]
    exact h1 ⟨q, q2⟩
  · rw [decide_eq_false q2]
    exact h2 fun z => q2 z.2
section
variable {P : Program} {w : World} {K : PySem.W.Frag} {mg : Str → Option Value} {base : Heap} {CF CR : Addr}
theorem scLook : FnScope ["self"] ["self"] (defScope sLook) := ⟨rfl, rfl, rfl, by decide +kernel, rfl, by decide +kernel, by decide +kernel⟩
theorem ok_look {f : Addr} {fd : FuncData} (F : Fun K "look" "Reader.look" sLook f fd) (T : TxR K mg CR) (TC : TxC mg) (G : MethOk P w K mg base CX0 2 CR "ended" ["self"] (spEnded CR K)) : FnOk P w K mg base CX0 3 f fd ["self"] (spLook CR K) := by
  refine F.ok scLook (fun vs H Q E h => ?_) (fun cdv A outer s H vs Q E hr h => ?_)
  · obtain ⟨rd, b, p, rfl, _⟩ := h
    rfl
  · obtain ⟨rd, b, p, rfl, hR, k⟩ := h
    obtain ⟨⟨a, dx, h1, h2⟩, hp, hb⟩ := id hR
    refine ⟨_, pss_cons (ps_if (pt_val (pe_m0 G T.cl hr pass0 (pv 0))) (pss_one (ps_ret (pe_k TC.noByte (by rfl)))) pss_nil)
      (pss_one (ps_ret (pe_ix ix_list (pe_fld (pv 0) rfl) (pe_fld (pv 0) rfl) (fun _ _ => rfl)))), ?_⟩
    refine ⟨_, rfl, rd, dx, _, rfl, h1, rdF_no _ _ (by decide +kernel) (by decide +kernel), rd, b, p, rfl, hR, _, rfl, tst (fun q => ?_) (fun q => ?_)⟩
    · rw [lk_end (Nat.le_of_eq q.symm)] at k
      exact k
    · obtain ⟨full, h2, hpre⟩ := h2
      exact ⟨_, rfl, rd, CR, dx, _, _, rfl, h1, T.cl, T.nt, rdF_text _ _, _, rfl, rd, CR, dx, _, _, rfl, h1, T.cl, T.np, rdF_place _ _, a, _, _, _, rfl, rfl, h2, atI_nat (bv_pre hpre (by omega)), k⟩
theorem scIsCh2 : FnScope ["number"] ["number"] (defScope sIsCh) := ⟨rfl, rfl, rfl, by decide +kernel, rfl, by decide +kernel, by decide +kernel⟩
theorem ok_isCh {f : Addr} {fd : FuncData} (F : Fun K "is_character" "is_character" sIsCh f fd) (TC : TxC mg) : FnOk P w K mg base CX0 2 f fd ["number"] spIsCh := by
  refine F.ok scIsCh (fun vs H Q E h => ?_) (fun cdv A outer s H vs Q E hr h => ?_)
  · obtain ⟨v, rfl, _⟩ := h
    rfl
  · obtain ⟨v, rfl, k⟩ := h
    have k0 : ∀ c : Bool, c = isCh v → Q (.bl c) H := fun c e => by rw [e]; exact k
    have isF : ¬ (32 ≤ v ∧ v ≤ 1114111 ∧ ¬ (127 ≤ v ∧ v ≤ 159) ∧ ¬ (55296 ≤ v ∧ v ≤ 57343) ∧ v % 65536 < 65534) → false = isCh v := fun z => by
      cases q : isCh v with
      | false => rfl
      | true => exact absurd ((isCh_iff v).mp q) z
    refine ⟨_, pss_cons (ps_if (PW.pt (pw_or (pt_cmpR op_lt (pv 0) pe_int (nomark _)) (pw_or1 (pt_cmpR op_gt (pv 0) (pe_k TC.lastN (by rfl)) (nomark _))))) (pss_one (ps_ret pe_bl)) pss_nil)
      (pss_cons (ps_if (PW.pt (pw_or (pt_chain op_le op_le pe_int (pv 0) pe_int) (pw_or1 (pt_chain op_le op_le pe_int (pv 0) pe_int)))) (pss_one (ps_ret pe_bl)) pss_nil)
      (pss_one (ps_ret (pe_cmpR op_lt (pe_op op_mod (pv 0) pe_int) pe_int (nomark _))))), ?_⟩
    have last : ¬ v < 32 → ¬ 1114111 < v → ¬ (127 ≤ v ∧ v ≤ 159) → ¬ (55296 ≤ v ∧ v ≤ 57343) → tRet (tOp (rI0 fun i j => .bl (decide (i < j))) (tOp (rI (fun _ j => 0 < j) fun i j => .int (i % j)) (tVar 0) (tC (.int 65536))) (tC (.int 65534))) { nx := fun _ H' => Q .non H', rt := Q } (start ["number"] [V.int (v : Nat)]) H := by
      intro a1 a2 a3 a4
      refine ⟨_, rfl, _, _, rfl, rfl, (by show (0 : Int) < 65536; decide), _, _, rfl, rfl, k0 _ ?_⟩
      by_cases q : isCh v = true
      · rw [q]
        have := (isCh_iff v).mp q
        exact decide_eq_true (by omega)
      · have q2 : isCh v = false := by simpa using q
        rw [q2]
        refine decide_eq_false fun z => q ((isCh_iff v).mpr ⟨by omega, by omega, a3, a4, by omega⟩)
    refine ⟨_, rfl, _, _, rfl, rfl, _, rfl, tst (fun q => iteT (k0 _ (isF (by omega)))) (fun q1 => ?_)⟩
    refine ⟨_, rfl, _, _, rfl, rfl, _, rfl, tst (fun q => k0 _ (isF (by omega))) (fun q2 => ?_)⟩
    refine t_chain rfl (fun q => iteT (iteT (k0 _ (isF (by omega))))) (fun q3 => iteF ?_)
    exact t_chain rfl (fun q => iteT (k0 _ (isF (by omega)))) (fun q4 => iteF (last (by omega) (by omega) (by omega) (by omega)))
theorem scFirst : FnScope ["byte"] ["byte"] (defScope sFirst) := ⟨rfl, rfl, rfl, by decide +kernel, rfl, by decide +kernel, by decide +kernel⟩
theorem ok_first {f : Addr} {fd : FuncData} (F : Fun K "first_byte" "first_byte" sFirst f fd) : FnOk P w K mg base CX0 2 f fd ["byte"] spFirst := by
  refine F.ok scFirst (fun vs H Q E h => ?_) (fun cdv A outer s H vs Q E hr h => ?_)
  · obtain ⟨v, rfl, _⟩ := h
    rfl
  · obtain ⟨v, rfl, k⟩ := h
    have k0 : ∀ (n : Nat) (z : Int), n = firstN v → z = (firstV v : Nat) → ∀ p, H p = none → Q (.ref p) (upd H p (.tup [.int (n : Nat), .int z])) := fun n z e1 e2 p hp => by
      subst e1 e2
      exact k p hp
    refine ⟨_, pss_cons (ps_if (pt_cmpR op_lt (pv 0) pe_int (nomark _)) (pss_one (ps_ret (pe_tup (pa_cons pe_int (pa_cons (pv 0) pa_nil))))) pss_nil)
      (pss_cons (ps_if (pt_chain op_le op_le pe_int (pv 0) pe_int) (pss_one (ps_ret (pe_tup (pa_cons pe_int (pa_cons (pe_op op_sub (pv 0) pe_int) pa_nil))))) pss_nil)
      (pss_cons (ps_if (pt_chain op_le op_le pe_int (pv 0) pe_int) (pss_one (ps_ret (pe_tup (pa_cons pe_int (pa_cons (pe_op op_sub (pv 0) pe_int) pa_nil))))) pss_nil)
      (pss_cons (ps_if (pt_chain op_le op_le pe_int (pv 0) pe_int) (pss_one (ps_ret (pe_tup (pa_cons pe_int (pa_cons (pe_op op_sub (pv 0) pe_int) pa_nil))))) pss_nil)
      (pss_one (ps_ret (pe_tup (pa_cons pe_int (pa_cons pe_int pa_nil)))))))), ?_⟩
    have two : 2 ≤ sizeLine := by decide
    refine ⟨_, rfl, _, _, rfl, rfl, _, rfl, tst (fun q => ?_) (fun q1 => ?_)⟩
    · exact ⟨_, rfl, two, k0 0 _ (by unfold firstN; rw [if_pos (by omega)]) (by unfold firstV; rw [if_pos (by omega)])⟩
    refine t_chain rfl (fun q => iteT ?_) (fun q2 => iteF ?_)
    · exact ⟨_, rfl, _, _, rfl, rfl, two, k0 1 _ (by unfold firstN; rw [if_neg (by omega), if_pos (by omega)]) (by unfold firstV; rw [if_neg (by omega), if_pos (by omega)]; omega)⟩
    refine t_chain rfl (fun q => iteT ?_) (fun q3 => iteF ?_)
    · exact ⟨_, rfl, _, _, rfl, rfl, two, k0 2 _ (by unfold firstN; rw [if_neg (by omega), if_neg (by omega), if_pos (by omega)]) (by unfold firstV; rw [if_neg (by omega), if_neg (by omega), if_pos (by omega)]; omega)⟩
    refine t_chain rfl (fun q => iteT ?_) (fun q4 => iteF ?_)
    · exact ⟨_, rfl, _, _, rfl, rfl, two, k0 3 _ (by unfold firstN; rw [if_neg (by omega), if_neg (by omega), if_neg (by omega), if_pos (by omega)]) (by unfold firstV; rw [if_neg (by omega), if_neg (by omega), if_neg (by omega), if_pos (by omega)]; omega)⟩
    exact ⟨two, k0 0 0 (by unfold firstN; rw [if_neg (by omega), if_neg (by omega), if_neg (by omega), if_neg (by omega)]) (by unfold firstV; rw [if_neg (by omega), if_neg (by omega), if_neg (by omega), if_neg (by omega)]; rfl)⟩
end
end Sg

/-! SgRd3 -/
set_option Elab.async false
set_option linter.all false
set_option maxRecDepth 100000
set_option maxHeartbeats 4000000
namespace Sg
open PySem PySem.Spec PyProof.Rows L2
theorem decI {a b : Nat} : decide (V.int (a : Nat) = V.int (b : Nat)) = decide (a = b) := dec_eq ⟨fun z => by have := V.int.inj z; omega, fun z => by rw [z]⟩
theorem decI2 {a : Nat} {b : Int} : decide (V.int (a : Nat) = V.int b) = decide ((a : Int) = b) := dec_eq ⟨fun z => V.int.inj z, fun z => by rw [z]⟩
section
variable {P : Program} {w : World} {K : PySem.W.Frag} {mg : Str → Option Value} {base : Heap} {CF CR : Addr}
theorem scLeads : FnScope ["number", "least", "most", "low", "high"] ["number", "least", "most"] (defScope sLeads) := ⟨rfl, rfl, rfl, by decide +kernel, rfl, by decide +kernel, by decide +kernel⟩
theorem ok_leads {f : Addr} {fd : FuncData} (F : Fun K "leads_to" "leads_to" sLeads f fd) : FnOk P w K mg base CX0 2 f fd ["number", "least", "most"] spLeads := by
  refine F.ok scLeads (fun vs H Q E h => ?_) (fun cdv A outer s H vs Q E hr h => ?_)
  · obtain ⟨v, lo, hi, rfl, _⟩ := h
    rfl
  · obtain ⟨v, lo, hi, rfl, hb, k⟩ := h
    refine ⟨_, pss_cons (ps_if (pt_cmpR op_eq (pv 0) pe_int (nomark _)) (pss_one (ps_ret (pe_cmpR op_eq (pv 1) pe_int (nomark _)))) pss_nil)
      (pss_cons (ps_set (i := 3) scLeads.nd rfl (Or.inl rfl) (pv 0)) (pss_cons (ps_set (i := 4) scLeads.nd rfl (Or.inl rfl) (pv 0))
      (pss_cons (ps_while PassesOwn.never (pt_cmpR op_le (pv 3) (pv 2) (nomark _)) (pss_cons (ps_if (pt_cmpR op_ge (pv 4) (pv 1) (nomark _)) (pss_one (ps_ret pe_bl)) pss_nil)
        (pss_cons (ps_set (i := 3) scLeads.nd rfl (Or.inl rfl) (pe_op op_mul (pv 3) pe_int)) (pss_one (ps_set (i := 4) scLeads.nd rfl (Or.inl rfl) (pe_op op_add (pe_op op_mul (pv 4) pe_int) pe_int))))))
      (pss_one (ps_ret pe_bl))))), ?_⟩
    refine ⟨_, rfl, rfl, _, rfl, ?_⟩
    rw [decI2]
    refine tst (fun q => ?_) (fun q => ?_)
    · have hv : v = 0 := by omega
      subst hv
      refine ⟨_, rfl, rfl, ?_⟩
      show Q (.bl (decide (V.int (lo : Nat) = V.int 0))) H
      rw [decI2]
      rw [begins_zero] at k
      rw [show decide ((lo : Int) = 0) = decide (lo = 0) from dec_eq (by omega)]
      exact k
    have hv : v ≠ 0 := by omega
    refine ⟨_, rfl, _, rfl, ?_⟩
    refine ⟨fun m σ H' => H' = H ∧ ∃ j : Nat, σ = [some (.int (v : Nat)), some (.int (lo : Nat)), some (.int (hi : Nat)), some (.int ((v * 10 ^ j : Nat) : Int)), some (.int ((v * 10 ^ j + (10 ^ j - 1) : Nat) : Int))] ∧ (∀ i, i < j → v * 10 ^ i + (10 ^ i - 1) < lo) ∧ m = hi + 1 - v * 10 ^ j, ⟨_, rfl, 0, ?_, fun i z => absurd z (by omega), rfl⟩, ?_⟩
    · have e1 : v * 10 ^ 0 = v := by simp
      have e2 : v * 10 ^ 0 + (10 ^ 0 - 1) = v := by simp
      rw [e2, e1]
      rfl
    rintro m σ H' ⟨eH, j, eσ, hj, em⟩
    subst eH eσ em
    have hpos : 0 < v * 10 ^ j := Nat.mul_pos (by omega) (Nat.pow_pos (by omega))
    refine ⟨_, rfl, _, rfl, _, _, rfl, rfl, _, rfl, tst (fun q1 => ?_) (fun q1 => ?_)⟩
    · refine ⟨fun σ' H2 => H2 = H' ∧ σ' = [some (.int (v : Nat)), some (.int (lo : Nat)), some (.int (hi : Nat)), some (.int ((v * 10 ^ (j + 1) : Nat) : Int)), some (.int ((v * 10 ^ (j + 1) + (10 ^ (j + 1) - 1) : Nat) : Int))] ∧ v * 10 ^ j + (10 ^ j - 1) < lo, ?_, ?_⟩
      · rintro σ' H2 ⟨e1, e2, e3⟩
        refine ⟨hi + 1 - v * 10 ^ (j + 1), ?_, e1, j + 1, e2, fun i hi' => ?_, rfl⟩
        · have : v * 10 ^ (j + 1) = v * 10 ^ j * 10 := by rw [Nat.pow_succ, Nat.mul_assoc]
          omega
        · by_cases z : i = j
          · rw [z]; exact e3
          · exact hj i (by omega)
      · refine ⟨_, rfl, _, rfl, _, _, rfl, rfl, _, rfl, tst (fun q2 => ?_) (fun q2 => ?_)⟩
        · rw [begins_true j hv hb (by omega) (by omega)] at k
          exact k
        · refine ⟨_, rfl, _, _, rfl, rfl, .inr ⟨by decide, by decide⟩, _, rfl, _, _, rfl, rfl, .inr ⟨by decide, by decide⟩, _, _, rfl, rfl, rfl, ?_, by omega⟩
          have e1 : ((v * 10 ^ j : Nat) : Int) * 10 = ((v * 10 ^ (j + 1) : Nat) : Int) := by
            rw [Nat.pow_succ, ← Nat.mul_assoc]; omega
          have e2 : ((v * 10 ^ j + (10 ^ j - 1) : Nat) : Int) * 10 + 9 = ((v * 10 ^ (j + 1) + (10 ^ (j + 1) - 1) : Nat) : Int) := by
            have a1 : v * 10 ^ (j + 1) = v * 10 ^ j * 10 := by rw [Nat.pow_succ, Nat.mul_assoc]
            have a2 : 10 ^ (j + 1) = 10 ^ j * 10 := Nat.pow_succ ..
            have a3 : 0 < 10 ^ j := Nat.pow_pos (by omega)
            omega
          rw [← e1, ← e2]
          rfl
    · rw [begins_false j hv hj (by omega)] at k
      exact k
/-! ### reading a method of the Reader at a slot -/
theorem m_look {σ : L2.St} {H : Hp} {Q : VK} {i rd p : Nat} {b : Fh.Bytes} {E : XK} (hi : σ[i]? = some (some (.ref rd))) (hR : RdAt CR K H rd b p) (q : Q (.int (lk (b.drop p) : Nat)) H) : tMeth CR "look" (spLook CR K) [] E (tVar i) tNil σ H Q := by
  obtain ⟨⟨a, dx, h1, h2⟩, _⟩ := id hR
  exact ⟨_, hi, rd, dx, _, rfl, h1, rdF_no _ _ (by decide +kernel) (by decide +kernel), rd, b, p, rfl, hR, q⟩
theorem m_ended {σ : L2.St} {H : Hp} {Q : VK} {i rd p : Nat} {b : Fh.Bytes} {E : XK} (hi : σ[i]? = some (some (.ref rd))) (hR : RdAt CR K H rd b p) (q : Q (.bl (decide (p = b.length))) H) : tMeth CR "ended" (spEnded CR K) [] E (tVar i) tNil σ H Q := by
  obtain ⟨⟨a, dx, h1, h2⟩, _⟩ := id hR
  exact ⟨_, hi, rd, dx, _, rfl, h1, rdF_no _ _ (by decide +kernel) (by decide +kernel), rd, b, p, rfl, hR, q⟩
theorem m_char {σ : L2.St} {H : Hp} {Q : VK} {i rd p : Nat} {b : Fh.Bytes} {E : XK} (hi : σ[i]? = some (some (.ref rd))) (hR : RdAt CR K H rd b p) (q : Out (Fh.charHere (b.drop p)) p (fun v q => Good CR K H rd b p q fun H' => Q (.int (v : Nat)) H') (Bad CF E)) : tMeth CR "take_character" (spChar CF CR K) [] E (tVar i) tNil σ H Q := by
  obtain ⟨⟨a, dx, h1, h2⟩, _⟩ := id hR
  exact ⟨_, hi, rd, dx, _, rfl, h1, rdF_no _ _ (by decide +kernel) (by decide +kernel), rd, b, p, rfl, hR, q⟩
/-- self.place in hand, an error made of it -/
theorem raise_at {σ : L2.St} {H : Hp} {E : XK} {i rd p : Nat} {b : Fh.Bytes} (T : TxR K mg CR) (hi : σ[i]? = some (some (.ref rd))) (hR : RdAt CR K H rd b p) (q : Bad CF E p) :
    tMkO CF (spFault CF) [] (tCons (tFld K (tVar i) "place") tNil) σ H (fun cls d H' => E cls d H') := by
  obtain ⟨⟨a, dx, h1, h2⟩, _⟩ := id hR
  refine ⟨_, hi, rd, CR, dx, _, _, rfl, h1, T.cl, T.np, rdF_place _ _, (by show 1 ≤ 1000; decide), fun e he => ⟨e, p, rfl, upd_same, fun H' d hd h1 h2 => ⟨rfl, d, ftF p, h1, h2, ?_, q d _ upd_same⟩⟩⟩
  by_cases z : d = e
  · rw [z, upd_same] at hd
    cases hd
  · rw [upd_ne z] at hd
    exact hd
theorem scTake : FnScope ["self", "wanted", "byte"] ["self", "wanted"] (defScope sTake) := ⟨rfl, rfl, rfl, by decide +kernel, rfl, by decide +kernel, by decide +kernel⟩
theorem inV_nat (n : Nat) (ws : List Nat) : inV (V.int (n : Nat)) (ws.map fun (n : Nat) => V.int (n : Nat)) = decide (n ∈ ws) := by
  unfold inV
  rw [List.any_map]
  induction ws with
  | nil => simp
  | cons a r ih =>
    rw [List.any_cons, ih]
    show ((a : Int) == (n : Int) || decide (n ∈ r)) = decide (n ∈ a :: r)
    by_cases q : n = a
    · subst q; simp
    · have : ¬ (a : Int) = (n : Int) := by omega
      simp [q, this]
theorem flat_nat (ws : List Nat) : (ws.map fun (n : Nat) => V.int (n : Nat)).all flatV = true := by
  rw [List.all_map]
  exact List.all_eq_true.mpr fun _ _ => rfl
theorem ok_take {f fI : Addr} {fd fdI : FuncData} (F : Fun K "take" "Reader.take" sTake f fd) (T : TxR K mg CR) (TC : TxC mg) (TF : TxF K mg CF) (G : MethOk P w K mg base CX0 3 CR "look" ["self"] (spLook CR K))
    (iF : PySem.W.findIn K (.ref CF) "__init__" = some (some (.ref fI))) (tF : PySem.W.typeIn K (.ref fI) = some (.type "function")) (FI : FnOk P w K mg base CX0 2 fI fdI ["self", "place"] (spFault CF)) (bI : Binds K fdI ["self", "place"] []) :
    FnOk P w K mg base (L2N.CX P w) 4 f fd ["self", "wanted"] (spTake CF CR K) := by
  refine okN F scTake (fun vs H Q E h => ?_) (fun cdv A outer s H vs Q E hr h => ?_)
  · obtain ⟨rd, wa, b, p, ws, rfl, _⟩ := h
    rfl
  · obtain ⟨rd, wa, b, p, ws, rfl, hR, hw, hlt, kg, kb⟩ := h
    obtain ⟨⟨a, dx, h1, h2⟩, hp, hb⟩ := id hR
    refine ⟨_, pss_cons (ps_set (i := 2) scTake.nd rfl (Or.inl rfl) (pe_m0 G T.cl hr pass0 (pv 0)))
      (pss_cons (ps_if (pt_cmpR op_notIn_seq (pv 2) (pv 1) (by rfl)) (pss_one (L2N.ps_raise rfl (L2N.takes_of rfl rfl rfl rfl) (pmk_oexN TF.ox iF tF FI hr bI .nil pass0 (by rfl) TF.g (pa_cons (pe_fld (pv 0) rfl) pa_nil)))) pss_nil)
      (pss_cons (ps_fldaug (pv 0) pe_int in_add) (pss_one (ps_ret (pv 2))))), ?_⟩
    refine m_look rfl hR ?_
    refine ⟨_, rfl, _, rfl, wa, _, rfl, .inl hw, rfl, flat_nat ws, _, rfl, ?_⟩
    show if (!inV (V.int (lk (b.drop p) : Nat)) (ws.map fun (n : Nat) => V.int (n : Nat))) = true then _ else _
    rw [inV_nat]
    by_cases q : lk (b.drop p) ∈ ws
    · rw [decide_eq_true q]
      refine iteF ?_
      have hlt' : p < b.length := lk_lt (hlt _ q)
      refine ⟨_, rfl, rd, CR, dx, _, _, rfl, h1, T.cl, T.np, rdF_place _ _, _, _, rfl, rfl, dx, _, h1, (by show 3 < 1000; decide), _, rfl, ?_⟩
      have e : putF "place" (V.int ((p : Nat) + 1)) (rdF a p b.length) = rdF a (p + 1) b.length := rdF_put a p (p + 1)
      rw [e]
      exact kg q _ ⟨⟨a, dx, upd_same, h2.kp h1 Kp.self⟩, by omega, hb⟩ (by omega) Kp.self
    · rw [decide_eq_false q]
      refine iteT ?_
      exact raise_at T rfl hR (kb q)
end
end Sg

/-! SgRd4 -/
set_option Elab.async false
set_option linter.all false
set_option maxRecDepth 100000
set_option maxHeartbeats 4000000
namespace Sg
open PySem PySem.Spec PyProof.Rows L2
section
variable {P : Program} {w : World} {K : PySem.W.Frag} {mg : Str → Option Value} {base : Heap} {CF CR : Addr}
theorem RgAt.same {H H' : Hp} {a : Addr} {rs : List (Nat × Nat)} (h : RgAt K H a rs) (s : Same H H') : RgAt K H' a rs := by
  obtain ⟨ts, h1, h2, h3⟩ := h
  refine ⟨ts, s.seq h1, h2, fun i t e => ?_⟩
  obtain ⟨r, e1, e2⟩ := h3 i t e
  exact ⟨r, e1, sqT_same s e2⟩
theorem RgAt.kp {H H' : Hp} {a rd p : Addr} {b : Fh.Bytes} {rs : List (Nat × Nat)} (h : RgAt K H a rs) (hR : RdAt CR K H rd b p) (s : Kp rd H H') : RgAt K H' a rs := by
  obtain ⟨⟨_, _, hr, _⟩, _⟩ := hR
  obtain ⟨ts, h1, h2, h3⟩ := h
  refine ⟨ts, sq_kp hr s h1, h2, fun i t e => ?_⟩
  obtain ⟨r, e1, e2⟩ := h3 i t e
  exact ⟨r, e1, sqT_kp hr s e2⟩
/-- any([test for least, most in ranges]), least and most in the slots 4 and 5 of 6, ranges in slot 1 -/
theorem any_rg {x0 x2 x3 x4 x5 : Option V} {ra : Addr} {rs : List (Nat × Nat)} {H : Hp} {Q : VK} {te : TE} {f : Nat → Nat → Bool} (hrg : RgAt K H ra rs) (hn : rs.length ≤ 1000)
    (hte : ∀ (lo hi : Nat) (H' : Hp) (Q' : VK), (lo, hi) ∈ rs → Same H H' → Q' (.bl (f lo hi)) H' → te [x0, some (.ref ra), x2, x3, some (.int (lo : Nat)), some (.int (hi : Nat))] H' Q')
    (hQ : ∀ H', Same H H' → Q (.bl (rs.any fun r => f r.1 r.2)) H') :
    tCB (rAny K) (tCons (tLc (iList K (tVar 1)) (gTup K 2 (gCons (gName 4) (gCons (gName 5) gNil))) tYes te ([(("least" : Str), 4), (("most" : Str), 5)].map (·.2))) tNil) [x0, some (.ref ra), x2, x3, x4, x5] H Q := by
  obtain ⟨ts, h1, h2, h3⟩ := hrg
  refine ⟨_, rfl, ra, rfl, ⟨_, h1⟩, fun D hD => ?_⟩
  refine lc_list (K := K) (a := ra) (xs := ts.map V.ref) (fun i H' => Same H H' ∧ H' D = some (.lst (((rs.take i).map fun r => f r.1 r.2).map V.bl))) ⟨same_new hD, upd_same⟩ (fun i H' _ p => p.1.seq h1) (fun i x H' hx hP => ?_) (fun H' hP => ?_)
  · obtain ⟨hs, hl⟩ := hP
    rw [List.getElem?_map] at hx
    cases ht : ts[i]? with
    | none => rw [ht] at hx; cases hx
    | some t =>
      rw [ht] at hx
      obtain rfl : V.ref t = x := Option.some.inj hx
      obtain ⟨r, e1, e2⟩ := h3 i t ht
      have hmem : (r.1, r.2) ∈ rs := List.mem_of_getElem? e1
      refine ⟨t, _, rfl, sqT_same hs e2, rfl, _, _, rfl, _, _, rfl, rfl, rfl, ?_⟩
      refine iteT (B := Same H H' ∧ H' D = some (.lst (((rs.take (i + 1)).map fun r => f r.1 r.2).map V.bl))) ?_
      refine hte r.1 r.2 H' _ hmem hs ?_
      refine ⟨_, hl, ?_, fun b o e => ?_, ?_⟩
      · rw [List.length_map, List.length_map, List.length_take]
        have : (1000 : Nat) < sizeLine := by decide
        omega
      · by_cases hb : b = D
        · rw [hb, hD] at e; cases e
        · rw [upd_ne hb]; exact hs b o e
      · rw [upd_same, List.take_add_one, e1]
        simp
  · obtain ⟨hs, hl⟩ := hP
    refine ⟨D, (rs.map fun r => f r.1 r.2), rfl, ?_, ?_⟩
    · rw [List.length_map, h2, List.take_length] at hl
      exact .inl (.inl hl)
    · have e : (rs.map fun r => f r.1 r.2).any id = rs.any fun r => f r.1 r.2 := by
        rw [List.any_map]; rfl
      rw [e]
      exact hQ H' hs
theorem t_digit {σ : L2.St} {H : Hp} {Q : Bool → Hp → Prop} {i rd p : Nat} {b : Fh.Bytes} {E : XK} (hi : σ[i]? = some (some (.ref rd))) (hR : RdAt CR K H rd b p) (h1 : 48 ≤ lk (b.drop p) ∧ lk (b.drop p) ≤ 57 → Q true H) (h2 : ¬ (48 ≤ lk (b.drop p) ∧ lk (b.drop p) ≤ 57) → Q false H) :
    tTest (tChain (rI0 fun i j => .bl (decide (i ≤ j))) (rI0 fun i j => .bl (decide (i ≤ j))) (tC (.int 48)) (tMeth CR "look" (spLook CR K) [] E (tVar i) tNil) (tC (.int 57))) σ H Q := by
  refine m_look hi hR ⟨_, _, rfl, rfl, _, rfl, tst (fun q => ?_) (fun q => ⟨_, rfl, h2 fun z => q (by omega)⟩)⟩
  refine ⟨_, _, rfl, rfl, _, rfl, ?_⟩
  by_cases q2 : lk (b.drop p) ≤ 57
  · rw [decide_eq_true (show ((lk (b.drop p) : Nat) : Int) ≤ 57 by omega)]
    exact h1 ⟨by omega, q2⟩
  · rw [decide_eq_false (show ¬ ((lk (b.drop p) : Nat) : Int) ≤ 57 by omega)]
    exact h2 fun z => q2 z.2
theorem f_place {σ : L2.St} {H : Hp} {Q : VK} {i rd p : Nat} {b : Fh.Bytes} (T : TxR K mg CR) (hi : σ[i]? = some (some (.ref rd))) (hR : RdAt CR K H rd b p) (q : Q (.int (p : Nat)) H) : tFld K (tVar i) "place" σ H Q := by
  obtain ⟨⟨a, dx, h1, h2⟩, _⟩ := id hR
  exact ⟨_, hi, rd, CR, dx, _, _, rfl, h1, T.cl, T.np, rdF_place _ _, q⟩
/-- self.place += 1 -/
theorem s_step {σ : L2.St} {H : Hp} {D : Ends} {i rd p : Nat} {b : Fh.Bytes} (T : TxR K mg CR) (hi : σ[i]? = some (some (.ref rd))) (hR : RdAt CR K H rd b p) (hp : p < b.length) (q : ∀ H', RdAt CR K H' rd b (p + 1) → Kp rd H H' → D.nx σ H') : sFldAug K (tVar i) (tC (.int 1)) L2.rAdd "place" D σ H := by
  obtain ⟨⟨a, dx, h1, h2⟩, _, hb⟩ := id hR
  refine ⟨_, hi, rd, CR, dx, _, _, rfl, h1, T.cl, T.np, rdF_place _ _, _, _, rfl, rfl, dx, _, h1, (by show 3 < 1000; decide), ?_⟩
  have e : putF "place" (V.int ((p : Nat) + 1)) (rdF a p b.length) = rdF a (p + 1) b.length := rdF_put a p (p + 1)
  rw [e]
  exact q _ ⟨⟨a, dx, upd_same, h2.kp h1 Kp.self⟩, by omega, hb⟩ Kp.self
theorem scNumber : FnScope ["self", "ranges", "number", "start", "least", "most"] ["self", "ranges"] (defScope sNumber) := ⟨rfl, rfl, rfl, by decide +kernel, rfl, by decide +kernel, by decide +kernel⟩
theorem ok_number {f fI : Addr} {fd fdI : FuncData} (F : Fun K "take_number" "Reader.take_number" sNumber f fd) (T : TxR K mg CR) (TC : TxC mg) (TF : TxF K mg CF) (G : MethOk P w K mg base CX0 3 CR "look" ["self"] (spLook CR K))
    (GL : CallOk P w K mg base CX0 2 "leads_to" ["number", "least", "most"] spLeads)
    (iF : PySem.W.findIn K (.ref CF) "__init__" = some (some (.ref fI))) (tF : PySem.W.typeIn K (.ref fI) = some (.type "function")) (FI : FnOk P w K mg base CX0 2 fI fdI ["self", "place"] (spFault CF)) (bI : Binds K fdI ["self", "place"] []) :
    FnOk P w K mg base (L2N.CX P w) 4 f fd ["self", "ranges"] (spNumber CF CR K) := by
  refine okN F scNumber (fun vs H Q E h => ?_) (fun cdv A outer s H vs Q E hr h => ?_)
  · obtain ⟨rd, ra, b, p, rs, rfl, _⟩ := h
    rfl
  · obtain ⟨rd, ra, b, p, rs, rfl, hR, hrg, hn, hlim, hout⟩ := h
    have hr1 : Room 2 (A.deeper (envOfC (Str.ofString "Reader.take_number") (defScope sNumber) s.heap.objs.size f cdv)) := hr.mono (by decide)
    refine ⟨_, pss_cons (ps_set (i := 2) scNumber.nd rfl (Or.inr rfl) pe_int)
      (pss_cons (ps_set (i := 3) scNumber.nd rfl (Or.inl rfl) (pe_fld (pv 0) rfl))
      (pss_cons (ps_while (passes_of rfl) (pt_chain op_le op_le (pe_k TC.nought (by rfl)) (pe_m0 G T.cl hr pass0 (pv 0)) (pe_k TC.nine (by rfl)))
        (pss_cons (ps_if (PW.pt (pw_and (pt_cmpR op_eq (pv 2) pe_int (nomark _)) (pw_and1 (pt_cmpR op_gt (pe_fld (pv 0) rfl) (pv 3) (nomark _))))) (pss_one (L2N.ps_raise rfl (L2N.takes_of rfl rfl rfl rfl) (pmk_oexN TF.ox iF tF FI hr bI .nil pass0 (by rfl) TF.g (pa_cons (pe_fld (pv 0) rfl) pa_nil)))) pss_nil)
        (pss_cons (ps_set (i := 2) scNumber.nd rfl (Or.inr rfl) (pe_op op_sub (pe_op op_add (pe_op op_mul (pv 2) pe_int) (pe_m0 G T.cl hr pass0 (pv 0))) (pe_k TC.nought (by rfl))))
        (pss_cons (ps_if (pt_not (pt_val (pe_callB (cr_any rfl) (by rfl) TC.any PyProof.Rows.boot_any (pa_cons (pe_lc (own := [("least", 4), ("most", 5)]) (g := gTup K 2 (gCons (gName 4) (gCons (gName 5) gNil))) (tt := tYes) rfl scNumber.nd (pi_list (pv 1)) (blkOk_by (N := ["self", "ranges", "number", "start", "least", "most"]) (sc := defScope sNumber) (by decide +kernel))
            (fun _ _ _ _ _ => pg_tup rfl (pgs_cons (pg_name (i := 4) scNumber.nd rfl (Or.inl rfl)) (pgs_cons (pg_name (i := 5) scNumber.nd rfl (Or.inl rfl)) pgs_nil))) (fun _ _ _ _ _ => pts_nil) (fun _ _ _ _ _ => pe_c GL hr1 (by rfl) pass0 (by exact (pa_cons (pv 2) (pa_cons (pv 4) (pa_cons (pv 5) pa_nil)))))) pa_nil))))
            (pss_one (L2N.ps_raise rfl (L2N.takes_of rfl rfl rfl rfl) (pmk_oexN TF.ox iF tF FI hr bI .nil pass0 (by rfl) TF.g (pa_cons (pe_fld (pv 0) rfl) pa_nil)))) pss_nil)
        (pss_one (ps_fldaug (pv 0) pe_int in_add))))))
      (pss_cons (ps_if (PW.pt (pw_or (pt_cmpR op_eq (pe_fld (pv 0) rfl) (pv 3) (nomark _)) (pw_or1 (pt_not (pt_val (pe_callB (cr_any rfl) (by rfl) TC.any PyProof.Rows.boot_any (pa_cons (pe_lc (own := [("least", 4), ("most", 5)]) (g := gTup K 2 (gCons (gName 4) (gCons (gName 5) gNil))) (tt := tYes) rfl scNumber.nd (pi_list (pv 1)) (blkOk_by (N := ["self", "ranges", "number", "start", "least", "most"]) (sc := defScope sNumber) (by decide +kernel))
            (fun _ _ _ _ _ => pg_tup rfl (pgs_cons (pg_name (i := 4) scNumber.nd rfl (Or.inl rfl)) (pgs_cons (pg_name (i := 5) scNumber.nd rfl (Or.inl rfl)) pgs_nil))) (fun _ _ _ _ _ => pts_nil) (fun _ _ _ _ _ => pe_chain op_le op_le (pv 4) (pv 2) (pv 5))) pa_nil)))))))
          (pss_one (L2N.ps_raise rfl (L2N.takes_of rfl rfl rfl rfl) (pmk_oexN TF.ox iF tF FI hr bI .nil pass0 (by rfl) TF.g (pa_cons (pe_fld (pv 0) rfl) pa_nil)))) pss_nil)
      (pss_one (ps_ret (pv 2)))))), ?_⟩
    refine f_place T rfl hR ?_
    refine ⟨fun m σ H' => ∃ k v : Nat, σ = [some (.ref rd), some (.ref ra), some (.int (v : Nat)), some (.int (p : Nat)), none, none] ∧ RdAt CR K H' rd b (p + k) ∧ Kp rd H H' ∧ m = b.length - (p + k) ∧ (k = 0 → v = 0) ∧ numGo (canR rs) (finR rs) k v (b.drop (p + k)) = Fh.numberHere (canR rs) (finR rs) (b.drop p), ⟨_, 0, 0, rfl, hR, Kp.refl _ _, rfl, fun _ => rfl, rfl⟩, ?_⟩
    rintro m σ H1 ⟨k, v, rfl, hR1, hK1, rfl, h0, heq⟩
    rw [← heq] at hout
    refine t_digit rfl hR1 (fun hd => iteT ?_) (fun hd => iteF ?_)
    · have hlt : p + k < b.length := lk_lt (by omega)
      refine ⟨fun σ' H2 => ∃ v' : Nat, σ' = [some (.ref rd), some (.ref ra), some (.int (v' : Nat)), some (.int (p : Nat)), none, none] ∧ RdAt CR K H2 rd b (p + (k + 1)) ∧ Kp rd H H2 ∧ numGo (canR rs) (finR rs) (k + 1) v' (b.drop (p + (k + 1))) = Fh.numberHere (canR rs) (finR rs) (b.drop p), ?_, ?_⟩
      · rintro σ' H2 ⟨v', e1, e2, e3, e4⟩
        exact ⟨_, (by omega : b.length - (p + (k + 1)) < _), k + 1, v', e1, e2, e3, rfl, fun z => absurd z (by omega), e4⟩
      have rest : ¬ (v = 0 ∧ 0 < k) → tSeq (tAsg (tOp (rI0 fun i j => .int (i - j)) (tOp (rI0 fun i j => .int (i + j)) (tOp (rI CMul fun i j => .int (i * j)) (tVar 2) (tC (.int 10))) (tMeth CR "look" (spLook CR K) [] E0 (tVar 0) tNil)) (tC (.int 48))) (gName 2))
          (tSeq (tIfS (tNot (tB (tCB (rAny K) (tCons (tLc (iList K (tVar 1)) (gTup K 2 (gCons (gName 4) (gCons (gName 5) gNil))) tYes (tCall spLeads [] E0 (tCons (tVar 2) (tCons (tVar 4) (tCons (tVar 5) tNil)))) ([(("least" : Str), 4), (("most" : Str), 5)].map (·.2))) tNil)))) (fun _ σ H => tMkO CF (spFault CF) [] (tCons (tFld K (tVar 0) "place") tNil) σ H (fun cls d H' => E cls d H')) tNext) (sFldAug K (tVar 0) (tC (.int 1)) L2.rAdd "place"))
          { nx := fun σ' H2 => ∃ v' : Nat, σ' = [some (.ref rd), some (.ref ra), some (.int (v' : Nat)), some (.int (p : Nat)), none, none] ∧ RdAt CR K H2 rd b (p + (k + 1)) ∧ Kp rd H H2 ∧ numGo (canR rs) (finR rs) (k + 1) v' (b.drop (p + (k + 1))) = Fh.numberHere (canR rs) (finR rs) (b.drop p), rt := Q } [some (.ref rd), some (.ref ra), some (.int (v : Nat)), some (.int (p : Nat)), none, none] H1 := by
        intro hz
        refine ⟨_, rfl, _, _, rfl, rfl, .inr ⟨by decide, by decide⟩, ?_⟩
        refine m_look rfl hR1 ⟨_, _, rfl, rfl, _, _, rfl, rfl, ?_⟩
        have ev : ((v : Nat) : Int) * 10 + ((lk (b.drop (p + k)) : Nat) : Int) - 48 = ((v * 10 + lk (b.drop (p + k)) - 48 : Nat) : Int) := by omega
        dsimp only
        rw [ev]
        refine any_rg (f := fun lo hi => Fh.begins lo hi (v * 10 + lk (b.drop (p + k)) - 48)) (hrg.kp hR hK1) hn (fun lo hi H' Q' hm hs q => ?_) (fun H' hs => ⟨_, rfl, ?_⟩)
        · exact ⟨_, rfl, _, rfl, _, rfl, _, lo, hi, rfl, hlim _ hm, q⟩
        · show if (!canR rs (v * 10 + lk (b.drop (p + k)) - 48)) = true then _ else _
          cases hc : canR rs (v * 10 + lk (b.drop (p + k)) - 48) with
          | false =>
            refine iteT ?_
            rw [numGo_digit_bad _ _ k v _ hd (.inr hc) h0] at hout
            exact raise_at T rfl (hR1.same hs) hout
          | true =>
            refine iteF ?_
            refine s_step T rfl (hR1.same hs) hlt fun H2 hR2 hK2 => ⟨_, rfl, hR2, (hK1.trans (Kp.same hs)).trans hK2, ?_⟩
            rw [← heq, numGo_digit _ _ k v _ hd hz hc h0, drop_more, Nat.add_assoc]
      refine ⟨_, rfl, rfl, _, rfl, ?_⟩
      rw [decI2]
      refine tst (fun qv => ?_) (fun qv => iteF (rest (by omega)))
      obtain ⟨⟨a1, dx1, g1, g2⟩, _⟩ := id hR1
      refine ⟨_, rfl, rd, CR, dx1, _, _, rfl, g1, T.cl, T.np, rdF_place _ _, _, rfl, _, _, rfl, rfl, _, rfl, tst (fun qp => ?_) (fun qp => rest (by omega))⟩
      rw [numGo_digit_bad _ _ k v _ hd (.inl ⟨by omega, by omega⟩) h0] at hout
      exact raise_at T rfl hR1 hout
    · obtain ⟨⟨a1, dx1, g1, g2⟩, _⟩ := id hR1
      refine ⟨_, rfl, rd, CR, dx1, _, _, rfl, g1, T.cl, T.np, rdF_place _ _, _, rfl, rfl, _, rfl, ?_⟩
      rw [decI]
      refine tst (fun qp => iteT ?_) (fun qp => ?_)
      · rw [numGo_end_bad _ _ k v _ hd (.inl (by omega))] at hout
        exact raise_at T rfl hR1 hout
      · refine any_rg (f := fun lo hi => Fh.within lo hi v) (hrg.kp hR hK1) hn (fun lo hi H' Q' hm hs q => ?_) (fun H' hs => ⟨_, rfl, ?_⟩)
        · refine ⟨_, rfl, _, rfl, _, _, rfl, rfl, _, rfl, tst (fun q1 => ?_) (fun q1 => ?_)⟩
          · refine ⟨_, rfl, _, _, rfl, rfl, ?_⟩
            have : Fh.within lo hi v = decide ((v : Int) ≤ (hi : Int)) := by
              unfold Fh.within
              rw [decide_eq_true (show lo ≤ v by omega), Bool.true_and]
              exact dec_eq (by omega)
            rw [this] at q
            exact q
          · have : Fh.within lo hi v = false := by
              unfold Fh.within
              rw [decide_eq_false (show ¬ lo ≤ v by omega), Bool.false_and]
            rw [this] at q
            exact q
        · show if (!finR rs v) = true then _ else _
          cases hc : finR rs v with
          | false =>
            refine iteT ?_
            rw [numGo_end_bad _ _ k v _ hd (.inr hc)] at hout
            exact raise_at T rfl (hR1.same hs) hout
          | true =>
            refine iteF ?_
            rw [numGo_end _ _ k v _ hd (by omega) hc] at hout
            exact ⟨_, rfl, hout H' (hR1.same hs) (by omega) (hK1.trans (Kp.same hs))⟩
end
end Sg

/-! SgRd5 -/
set_option Elab.async false
set_option linter.all false
set_option maxRecDepth 100000
set_option maxHeartbeats 4000000
namespace Sg
open PySem PySem.Spec PyProof.Rows L2
/-- d.get(k, x) of a dict that the module holds -/
def tKG (d : Addr) (kvs : List (Key × V)) (td ty tx : TE) : TE := fun σ H Q => td σ H fun x H1 => x = .ref d ∧ ty σ H1 fun y H2 => tx σ H2 fun z H3 => ∃ k : Key, y = kV k ∧ Q ((valV kvs k).getD z) H3
theorem pe_kget {X : Cx} {o e f : Expr} {apos cpos : Pos} {td ty tx : TE} {d : Addr} {kvs : List (Key × V)} {vs : List (Key × Value)} (hdict : ∀ h, X.K.In h → h.DictOf (mixKind X.prog X.w) d vs) (hlow : (d == sysModules) = false) (hkv : KV kvs vs)
    (ho : PE X o td) (he : PE X e ty) (hf : PE X f tx) (m : M2 X o "get" apos e f cpos) : PE X (.Call (.Attribute o "get" apos) [e, f] [] cpos) (tKG d kvs td ty tx) := by
  refine ⟨fun pins s σ H Q I want => ?_⟩
  refine wpAny_Call_method m.base m.few m.line PySem.F.plainAttrs_dict PySem.F.slot_dict_get PySem.F.type_dict_get (thn (ho.run pins s σ H _ I want) fun u sa ⟨x, Ha, Ia, rx, ex, qa⟩ => ?_)
  subst ex
  obtain rfl : u = Value.ref d := rx
  have dd := hdict _ Ia.kIn
  obtain ⟨ob, _, _, hob, hexact, _⟩ := id dd
  refine ⟨dd.typeIs, fun c ec => ⟨ob, by cases ec; exact hob, hexact.2.1⟩, ?_⟩
  rw [m.trees]
  refine Calls.callWith_builtin rfl (Calls.evalArgs_plain (Calls.spliced_cons (thn (he.run pins sa σ Ha _ Ia qa) fun iv sb ⟨y, Hb, Ib, ry, qb⟩ =>
    Calls.spliced_cons (thn (hf.run pins sb σ Hb _ Ib qb) fun fv sc ⟨z, Hc, Ic, rz, key, ey, qc⟩ => Calls.spliced_nil ?_))))
  subst ey
  have dc := hdict _ Ic.kIn
  refine call_meetsIn PySem.F.slot_dict_get dc.typeIs PySem.F.entry_dict_get (PySem.F.args_dict_get_3 _ _ _) (meets_dict_get_default (mixKind X.prog X.w) d (kV_is ry) hlow fv) ⟨_, dc.mapOf, _, Hc, Ic.tok _, ?_, qc⟩
  exact (hkv.val key).getD rz
structure TxS (K : PySem.W.Frag) (P : Program) (w : World) (mg : Str → Option Value) : Prop where
  ex : ∃ (d t1 t2 t3 t4 : Addr) (vs : List (Key × Value)), mg "SECOND_BYTES" = some (.ref d) ∧ (d == sysModules) = false ∧ (∀ h, K.In h → h.DictOf (mixKind P w) d vs) ∧
    KV [((Sum.inl 224 : Key), V.ref t1), ((Sum.inl 237 : Key), V.ref t2), ((Sum.inl 240 : Key), V.ref t3), ((Sum.inl 244 : Key), V.ref t4)] vs ∧
    (∀ H, SqT K H t1 [.int 160, .int 191]) ∧ (∀ H, SqT K H t2 [.int 128, .int 159]) ∧ (∀ H, SqT K H t3 [.int 144, .int 191]) ∧ ∀ H, SqT K H t4 [.int 128, .int 143]
section
variable {P : Program} {w : World} {K : PySem.W.Frag} {mg : Str → Option Value} {base : Heap} {CF CR : Addr}
theorem scChar : FnScope ["self", "least", "most", "following", "number", "turn", "byte"] ["self"] (defScope sChar) := ⟨rfl, rfl, rfl, by decide +kernel, rfl, by decide +kernel, by decide +kernel⟩
theorem sec_val {t1 t2 t3 t4 z : Addr} {n : Nat} {H : Hp} (h1 : SqT K H t1 [.int 160, .int 191]) (h2 : SqT K H t2 [.int 128, .int 159]) (h3 : SqT K H t3 [.int 144, .int 191]) (h4 : SqT K H t4 [.int 128, .int 143]) (hz : SqT K H z [.int 128, .int 191]) :
    ∃ t, (valV [((Sum.inl 224 : Key), V.ref t1), ((Sum.inl 237 : Key), V.ref t2), ((Sum.inl 240 : Key), V.ref t3), ((Sum.inl 244 : Key), V.ref t4)] (Sum.inl ((n : Nat) : Int) : Key)).getD (V.ref z) = V.ref t ∧ SqT K H t [.int (secLo n : Nat), .int (secHi n : Nat)] := by
  have ne : ∀ {a : Int}, ¬ (n : Int) = a → ¬ (Sum.inl a : Key) = Sum.inl (n : Int) := fun h e => h (Sum.inl.inj e).symm
  by_cases c1 : n = 224
  · subst c1
    exact ⟨t1, rfl, h1⟩
  by_cases c2 : n = 237
  · subst c2
    exact ⟨t2, rfl, h2⟩
  by_cases c3 : n = 240
  · subst c3
    exact ⟨t3, rfl, h3⟩
  by_cases c4 : n = 244
  · subst c4
    exact ⟨t4, rfl, h4⟩
  refine ⟨z, ?_, ?_⟩
  · rw [valV_neg (ne (by omega)), valV_neg (ne (by omega)), valV_neg (ne (by omega)), valV_neg (ne (by omega))]
    rfl
  · have e1 : secLo n = 128 := by unfold secLo; rw [if_neg c1, if_neg c3]
    have e2 : secHi n = 191 := by unfold secHi; rw [if_neg c2, if_neg c4]
    rw [e1, e2]
    exact hz
theorem ok_char {f fI : Addr} {fd fdI : FuncData} (F : Fun K "take_character" "Reader.take_character" sChar f fd) (T : TxR K mg CR) (TC : TxC mg) (TF : TxF K mg CF) (TS : TxS K P w mg) (G : MethOk P w K mg base CX0 3 CR "look" ["self"] (spLook CR K))
    (GB : CallOk P w K mg base CX0 2 "first_byte" ["byte"] spFirst) (GC : CallOk P w K mg base CX0 2 "is_character" ["number"] spIsCh)
    (iF : PySem.W.findIn K (.ref CF) "__init__" = some (some (.ref fI))) (tF : PySem.W.typeIn K (.ref fI) = some (.type "function")) (FI : FnOk P w K mg base CX0 2 fI fdI ["self", "place"] (spFault CF)) (bI : Binds K fdI ["self", "place"] []) :
    FnOk P w K mg base (L2N.CX P w) 4 f fd ["self"] (spChar CF CR K) := by
  refine okN F scChar (fun vs H Q E h => ?_) (fun cdv A outer s H vs Q E hr h => ?_)
  · obtain ⟨rd, b, p, rfl, _⟩ := h
    rfl
  · obtain ⟨rd, b, p, rfl, hR, hout⟩ := h
    obtain ⟨d, t1, t2, t3, t4, us, hg, hlow, hdict, hkv, w1, w2, w3, w4⟩ := TS.ex
    have hr1 : Room 2 (A.deeper (envOfC (Str.ofString "Reader.take_character") (defScope sChar) s.heap.objs.size f cdv)) := hr.mono (by decide)
    refine ⟨_, pss_cons (ps_asg (pe_kget hdict hlow hkv (pe_glob (v := .ref d) (by rfl) hg rfl) (pe_m0 G T.cl hr pass0 (pv 0)) (pe_tup (pa_cons pe_int (pa_cons pe_int pa_nil))) ⟨rfl, rfl, rfl, rfl⟩)
          (pg_tup rfl (pgs_cons (pg_name (i := 1) scChar.nd rfl (Or.inl rfl)) (pgs_cons (pg_name (i := 2) scChar.nd rfl (Or.inl rfl)) pgs_nil))))
      (pss_cons (ps_asg (pe_c GB hr1 (by rfl) pass0 (by exact (pa_cons (pe_m0 G T.cl hr pass0 (pv 0)) pa_nil))) (pg_tup rfl (pgs_cons (pg_name (i := 3) scChar.nd rfl (Or.inl rfl)) (pgs_cons (pg_name (i := 4) scChar.nd rfl (Or.inl rfl)) pgs_nil))))
      (pss_cons (ps_for (passes_of rfl) rfl (pi_range1 (by rfl) TC.range (pa_cons (pv 3) pa_nil)) (pg_name (i := 5) scChar.nd rfl (Or.inl rfl))
        (pss_cons (ps_fldaug (pv 0) pe_int in_add)
        (pss_cons (ps_set (i := 6) scChar.nd rfl (Or.inl rfl) (pe_m0 G T.cl hr pass0 (pv 0)))
        (pss_cons (ps_if (PW.pt (pw_or (pt_cmpR op_lt (pv 6) (pv 1) (nomark _)) (pw_or1 (pt_cmpR op_gt (pv 6) (pv 2) (nomark _))))) (pss_one (L2N.ps_raise rfl (L2N.takes_of rfl rfl rfl rfl) (pmk_oexN TF.ox iF tF FI hr bI .nil pass0 (by rfl) TF.g (pa_cons (pe_fld (pv 0) rfl) pa_nil)))) pss_nil)
        (pss_cons (ps_set (i := 4) scChar.nd rfl (Or.inl rfl) (pe_op op_sub (pe_op op_add (pe_op op_mul (pv 4) pe_int) (pv 6)) pe_int))
        (pss_one (ps_asg (pe_tup (pa_cons pe_int (pa_cons pe_int pa_nil))) (pg_tup rfl (pgs_cons (pg_name (i := 1) scChar.nd rfl (Or.inl rfl)) (pgs_cons (pg_name (i := 2) scChar.nd rfl (Or.inl rfl)) pgs_nil))))))))))
      (pss_cons (ps_if (pt_not (pt_val (pe_c GC hr1 (by rfl) pass0 (by exact (pa_cons (pv 4) pa_nil))))) (pss_one (L2N.ps_raise rfl (L2N.takes_of rfl rfl rfl rfl) (pmk_oexN TF.ox iF tF FI hr bI .nil pass0 (by rfl) TF.g (pa_cons (pe_fld (pv 0) rfl) pa_nil)))) pss_nil)
      (pss_cons (ps_fldaug (pv 0) pe_int in_add) (pss_one (ps_ret (pv 4))))))), ?_⟩
    have two : 2 ≤ sizeLine := by decide
    have hout : Out (chRes (b.drop p)) p (fun v q => Good CR K H rd b p q fun H' => Q (.int (v : Nat)) H') (Bad CF E) := by
      rw [← charHere_is]
      exact hout
    unfold chRes takeCh at hout
    generalize hc : lk (b.drop p) = c at hout
    -- least, most
    refine ⟨rfl, ?_⟩
    refine m_look rfl hR ⟨two, fun z hz => ?_⟩
    rw [hc]
    refine ⟨Sum.inl ((c : Nat) : Int), rfl, ?_⟩
    obtain ⟨t, et, ht⟩ := sec_val (K := K) (n := c) (H := upd H z (.tup [.int 128, .int 191])) (w1 _) (w2 _) (w3 _) (w4 _) (.inl (.inl upd_same))
    rw [et]
    refine ⟨t, _, rfl, ht, rfl, _, _, rfl, _, _, rfl, rfl, ?_⟩
    have hR1 := hR.same (same_new (o := .tup [.int 128, .int 191]) hz)
    -- following, number
    refine m_look rfl hR1 ?_
    rw [hc]
    refine ⟨c, rfl, fun y hy => ⟨y, _, rfl, .inl (.inl upd_same), rfl, _, _, rfl, _, _, rfl, rfl, ?_⟩⟩
    have hR2 := hR1.same (same_new (o := .tup [.int (firstN c : Nat), .int (firstV c : Nat)]) hy)
    have hS2 : Same H (upd (upd H z (.tup [.int 128, .int 191])) y (.tup [.int (firstN c : Nat), .int (firstV c : Nat)])) := (same_new hz).trans (same_new hy)
    have hf3 : firstN c ≤ 3 := by
      unfold firstN
      split
      · omega
      · split
        · omega
        · split
          · omega
          · split <;> omega
    have hc244 : 0 < firstN c → c ≤ 244 := fun q => by
      unfold firstN at q
      split at q
      · omega
      · split at q
        · omega
        · split at q
          · omega
          · split at q <;> omega
    have hlo : 128 ≤ secLo c := by unfold secLo; split <;> (try split) <;> omega
    have hhi : secHi c ≤ 191 := by unfold secHi; split <;> (try split) <;> omega
    refine ⟨_, rfl, _, rfl, (by omega), (by omega), ?_⟩
    refine for_range (lo := 0) (n := firstN c) (fun i σ H' => ∃ (lo hi v : Nat) (o5 o6 : Option V), σ = [some (.ref rd), some (.int (lo : Nat)), some (.int (hi : Nat)), some (.int (firstN c : Nat)), some (.int (v : Nat)), o5, o6] ∧ RdAt CR K H' rd b (p + i) ∧ Kp rd H H' ∧ (128 ≤ lo ∧ hi ≤ 191 ∧ (i = 0 → v = firstV c)) ∧
        (i = 0 ∨ p + i < b.length) ∧ cont (firstN c - i) i lo hi v (b.drop (p + i + 1)) = cont (firstN c) 0 (secLo c) (secHi c) (firstV c) ((b.drop p).drop 1)) ⟨_, _, _, _, _, rfl, hR2, Kp.same hS2, ⟨hlo, hhi, fun _ => rfl⟩, .inl rfl, ?_⟩ ?_ ?_
    · rw [drop_more]
      rfl
    · rintro i σ H' hi ⟨lo, hi', v, o5, o6, rfl, hR', hK', ⟨hlo', hhi', hv0⟩, hpi, heq⟩
      have hlt : p + i < b.length := by
        rcases hpi with z | z
        · subst z
          refine lk_lt ?_
          show lk (b.drop p) < 256
          rw [hc]
          have := hc244 (by omega)
          omega
        · exact z
      have ef : firstN c - i = (firstN c - (i + 1)) + 1 := by omega
      rw [ef] at heq
      refine s_step T rfl hR' hlt fun H2 hR3 hK3 => ?_
      refine m_look rfl hR3 ?_
      have bad : lk (b.drop (p + i + 1)) < lo ∨ hi' < lk (b.drop (p + i + 1)) → Bad CF E (p + i + 1) := fun z => by
        rw [← heq, cont_bad _ _ _ _ _ _ z] at hout
        exact hout
      refine ⟨_, rfl, _, rfl, _, _, rfl, rfl, _, rfl, tst (fun q => iteT ?_) (fun q => ?_)⟩
      · exact raise_at T rfl hR3 (bad (.inl (by omega)))
      · refine ⟨_, rfl, _, rfl, _, _, rfl, rfl, _, rfl, tst (fun q2 => ?_) (fun q2 => ?_)⟩
        · exact raise_at T rfl hR3 (bad (.inr (by omega)))
        · refine ⟨_, rfl, _, _, rfl, rfl, .inr ⟨by decide, by decide⟩, _, rfl, _, _, rfl, rfl, _, _, rfl, rfl, two, fun z2 hz2 => ⟨z2, _, rfl, .inl (.inl upd_same), rfl, _, _, rfl, _, _, rfl, rfl, ?_⟩⟩
          have ev : ((v : Nat) : Int) * 64 + ((lk (b.drop (p + i + 1)) : Nat) : Int) - 128 = ((v * 64 + lk (b.drop (p + i + 1)) - 128 : Nat) : Int) := by omega
          have hcont : cont (firstN c - (i + 1)) (i + 1) 128 191 (v * 64 + lk (b.drop (p + i + 1)) - 128) (b.drop (p + (i + 1) + 1)) = cont (firstN c - (i + 1) + 1) i lo hi' v (b.drop (p + i + 1)) := by
            rw [cont, if_neg (by omega), drop_more]
            rfl
          refine ⟨128, 191, v * 64 + lk (b.drop (p + i + 1)) - 128, some (.int (0 + (i : Nat))), some (.int (lk (b.drop (p + i + 1)) : Nat)), ?_, hR3.same (same_new hz2), (hK'.trans hK3).trans (Kp.new hz2), ⟨by omega, by omega, fun z => absurd z (by omega)⟩, .inr ?_, hcont.trans heq⟩
          · rw [← ev]
            rfl
          · have := lk_lt (b := b) (p := p + i + 1) (by omega)
            omega
    · rintro σ H' ⟨lo, hi', v, o5, o6, rfl, hR', hK', ⟨hlo', hhi', hv0⟩, hpi, heq⟩
      rw [Nat.sub_self] at heq
      rw [← heq, cont] at hout
      refine ⟨_, rfl, v, rfl, _, rfl, ?_⟩
      cases hv : isCh v with
      | false =>
        rw [if_neg (by rw [hv]; simp)] at hout
        refine iteT ?_
        exact raise_at T rfl hR' hout
      | true =>
        rw [if_pos hv] at hout
        refine iteF ?_
        have hlt : p + firstN c < b.length := by
          rcases hpi with z | z
          · rw [z]
            refine lk_lt ?_
            show lk (b.drop p) < 256
            rw [hc]
            by_cases q : c < 128
            · omega
            · exfalso
              have e0 : v = 0 := by
                rw [hv0 z]
                unfold firstN at z
                unfold firstV
                rw [if_neg q] at z ⊢
                split
                · rename_i q2; rw [if_pos q2] at z; omega
                · rename_i q2
                  rw [if_neg q2] at z
                  split
                  · rename_i q3; rw [if_pos q3] at z; omega
                  · rename_i q3
                    rw [if_neg q3] at z
                    split
                    · rename_i q4; rw [if_pos q4] at z; omega
                    · rfl
              rw [e0] at hv
              exact absurd hv (by decide)
          · exact z
        refine s_step T rfl hR' hlt fun H2 hR3 hK3 => ?_
        exact ⟨_, rfl, hout H2 hR3 (by omega) (hK'.trans hK3)⟩
end
end Sg

/-! SgRt -/
set_option Elab.async false
set_option linter.all false
set_option maxRecDepth 100000
set_option maxHeartbeats 4000000
namespace Sg
open PySem PySem.Spec PyProof.Rows L2
structure TxN (mg : Str → Option Value) : Prop where
  len : mg "len" = none
  any : mg "any" = none
  list : mg "list" = none
  lastN : ∃ t, mg "LAST_NUMBER" = some (.int 1114111 t)
  blank : ∃ t, mg "BLANK" = some (.int 32 t)
  plus : ∃ t, mg "PLUS" = some (.int 43 t)
  hyphen : ∃ t, mg "HYPHEN" = some (.int 45 t)
  dot : ∃ t, mg "DOT" = some (.int 46 t)
  lf : ∃ t, mg "LINE_FEED" = some (.int 10 t)
  quote : ∃ t, mg "QUOTE" = some (.int 34 t)
  dollar : ∃ t, mg "DOLLAR" = some (.int 36 t)
  percent : ∃ t, mg "PERCENT" = some (.int 37 t)
  star : ∃ t, mg "STAR" = some (.int 42 t)
  caret : ∃ t, mg "CARET" = some (.int 94 t)
  bar : ∃ t, mg "BAR" = some (.int 124 t)
  anyK : ∃ t, mg "ANY" = some (.int 0 t)
  ofClass : ∃ t, mg "OF_CLASS" = some (.int 1 t)
  certain : ∃ t, mg "CERTAIN" = some (.int 2 t)
  lastC : ∃ t, mg "LAST_CLASS" = some (.int 15 t)
  mostT : ∃ t, mg "MOST_TIMES" = some (.int 32 t)
  mostRu : ∃ t, mg "MOST_RULES" = some (.int 256 t)
  mostRa : ∃ t, mg "MOST_RANGES" = some (.int 256 t)
  mostI : ∃ t, mg "MOST_ITEMS" = some (.int 16 t)
  mostC : ∃ t, mg kMC = some (.int 32 t)
/-! ### what the rules' parts look like in the heap; F: where their objects may stand -/
def RgP (F : Addr → Prop) (H : Hp) (ts : List Addr) (rs : List (Nat × Nat)) : Prop := Paired (fun (t : Addr) (r : Nat × Nat) => F t ∧ H t = some (.tup [.int (r.1 : Nat), .int (r.2 : Nat)])) ts rs
def RgL (F : Addr → Prop) (H : Hp) (a : Addr) (rs : List (Nat × Nat)) : Prop := F a ∧ ∃ ts : List Addr, H a = some (.lst (ts.map V.ref)) ∧ RgP F H ts rs
theorem RgP.keep {F : Addr → Prop} {H H' : Hp} {ts : List Addr} {rs : List (Nat × Nat)} (h : RgP F H ts rs) (k : ∀ b o, F b → H b = some o → H' b = some o) : RgP F H' ts rs := h.mono fun _ _ z => ⟨z.1, k _ _ z.1 z.2⟩
theorem RgP.imp {F G : Addr → Prop} {H : Hp} {ts : List Addr} {rs : List (Nat × Nat)} (h : RgP F H ts rs) (k : ∀ b, F b → G b) : RgP G H ts rs := h.mono fun _ _ z => ⟨k _ z.1, z.2⟩
theorem RgL.keep {F : Addr → Prop} {H H' : Hp} {a : Addr} {rs : List (Nat × Nat)} (h : RgL F H a rs) (k : ∀ b o, F b → H b = some o → H' b = some o) : RgL F H' a rs := by
  obtain ⟨h1, ts, h2, h3⟩ := h
  exact ⟨h1, ts, k _ _ h1 h2, h3.keep k⟩
theorem RgL.imp {F G : Addr → Prop} {H : Hp} {a : Addr} {rs : List (Nat × Nat)} (h : RgL F H a rs) (k : ∀ b, F b → G b) : RgL G H a rs := by
  obtain ⟨h1, ts, h2, h3⟩ := h
  exact ⟨k _ h1, ts, h2, h3.imp k⟩
theorem paired_snoc {α β : Type} {R : α → β → Prop} : ∀ {l : List α} {m : List β} {a : α} {b : β}, Paired R l m → R a b → Paired R (l ++ [a]) (m ++ [b])
  | _, _, _, _, .nil, h => .cons h .nil
  | _, _, _, _, .cons q r, h => .cons q (paired_snoc r h)
/-- where nothing stood before -/
def Fresh (H : Hp) : Addr → Prop := fun b => H b = none
theorem fresh_keep {H H1 H2 : Hp} {rd : Addr} {C dx : Addr} {fs : List (Str × V)} (hr : H rd = some (.ins C dx fs)) (k : Kp rd H1 H2) : ∀ b o, Fresh H b → H1 b = some o → H2 b = some o := fun b o hf e => k b o e fun z => by
  rw [z] at hf
  rw [show H rd = none from hf] at hr
  cases hr
theorem RdAt.ins {CR : Addr} {K : PySem.W.Frag} {H : Hp} {rd : Addr} {b : Fh.Bytes} {p : Nat} (h : RdAt CR K H rd b p) : ∃ dx fs, H rd = some (.ins CR dx fs) := by
  obtain ⟨⟨a, dx, h1, _⟩, _⟩ := h
  exact ⟨dx, _, h1⟩
theorem RdAt.fresh {CR : Addr} {K : PySem.W.Frag} {H H1 H2 : Hp} {rd : Addr} {b : Fh.Bytes} {p : Nat} (h : RdAt CR K H rd b p) (k : Kp rd H1 H2) : ∀ b o, Fresh H b → H1 b = some o → H2 b = some o := by
  obtain ⟨dx, fs, h1⟩ := h.ins
  exact fresh_keep h1 k
/-- free later, free before -/
theorem fresh_of {CR : Addr} {K : PySem.W.Frag} {H H1 : Hp} {rd : Addr} {b : Fh.Bytes} {q : Nat} (h1 : RdAt CR K H1 rd b q) (k : Kp rd H H1) : ∀ x, Fresh H1 x → Fresh H x := fun x hx => by
  show H x = none
  cases e : H x with
  | none => rfl
  | some o =>
    exfalso
    by_cases z : x = rd
    · obtain ⟨dx, fs, h2⟩ := h1.ins
      rw [z] at hx
      rw [show H1 rd = none from hx] at h2
      cases h2
    · have := k x o e z
      rw [show H1 x = none from hx] at this
      cases this
section
variable {P : Program} {w : World} {K : PySem.W.Frag} {mg : Str → Option Value} {base : Heap} {CF CR : Addr}
/-! ### reading a call of the Reader in short -/
theorem m_take {σ : L2.St} {H : Hp} {Q : VK} {i rd p : Nat} {b : Fh.Bytes} {E : XK} {ta : TA} (ws : List Nat) (hi : σ[i]? = some (some (.ref rd))) (hR : RdAt CR K H rd b p) (hws : ∀ n ∈ ws, n < 256) (hl : ws.length ≤ 10)
    (hta : ∀ Q' : List V → Hp → Prop, Q' (ws.map fun (n : Nat) => V.int (n : Nat)) H → ta σ H Q')
    (qg : lk (b.drop p) ∈ ws → Good CR K H rd b p (p + 1) fun H' => Q (.int (lk (b.drop p) : Nat)) H') (qb : ¬ lk (b.drop p) ∈ ws → Bad CF E p) :
    tMeth CR "take" (spTake CF CR K) [] E (tVar i) (tCons (tLst ta) tNil) σ H Q := by
  obtain ⟨⟨a, dx, h1, h2⟩, _⟩ := id hR
  refine ⟨_, hi, rd, dx, _, rfl, h1, rdF_no _ _ (by decide +kernel) (by decide +kernel), hta _ ⟨?_, fun l hl => ?_⟩⟩
  · rw [List.length_map]
    exact Nat.le_trans hl (by decide)
  · refine ⟨rd, l, b, p, ws, rfl, hR.same (same_new hl), .inl (.inl upd_same), hws, fun q H' hR' hlt hK' => ?_, qb⟩
    exact qg q H' hR' hlt ((Kp.new hl).trans hK')
theorem m_take1 {σ : L2.St} {H : Hp} {Q : VK} {i rd p : Nat} {b : Fh.Bytes} {E : XK} {n : Nat} (hn : n < 256) (hi : σ[i]? = some (some (.ref rd))) (hR : RdAt CR K H rd b p)
    (qg : lk (b.drop p) = n → Good CR K H rd b p (p + 1) fun H' => Q (.int (n : Nat)) H') (qb : ¬ lk (b.drop p) = n → Bad CF E p) :
    tMeth CR "take" (spTake CF CR K) [] E (tVar i) (tCons (tLst (tCons (tC (.int (n : Nat))) tNil)) tNil) σ H Q := by
  refine m_take [n] hi hR (fun m hm => ?_) (by simp) (fun Q' q => q) (fun q => ?_) fun q => qb fun z => q (by rw [z]; simp)
  · have : m = n := by simpa using hm
    omega
  · have e : lk (b.drop p) = n := by simpa using q
    rw [e]
    exact qg e
theorem m_number {σ : L2.St} {H : Hp} {Q : VK} {i rd p lo hi : Nat} {b : Fh.Bytes} {E : XK} {tlo thi : TE} (hi' : σ[i]? = some (some (.ref rd))) (hR : RdAt CR K H rd b p) (hlim : hi < 10 ^ 8)
    (h1 : ∀ Q' : VK, Q' (.int (lo : Nat)) H → tlo σ H Q') (h2 : ∀ Q' : VK, Q' (.int (hi : Nat)) H → thi σ H Q')
    (q : Out (num lo hi (b.drop p)) p (fun v q => Good CR K H rd b p q fun H' => Q (.int (v : Nat)) H') (Bad CF E)) :
    tMeth CR "take_number" (spNumber CF CR K) [] E (tVar i) (tCons (tLst (tCons (tTup (tCons tlo (tCons thi tNil))) tNil)) tNil) σ H Q := by
  obtain ⟨⟨a, dx, e1, e2⟩, _⟩ := id hR
  refine ⟨_, hi', rd, dx, _, rfl, e1, rdF_no _ _ (by decide +kernel) (by decide +kernel), h1 _ (h2 _ ⟨(by show 2 ≤ sizeLine; decide), fun t ht => ⟨(by show 1 ≤ sizeLine; decide), fun l hl => ?_⟩⟩)⟩
  have s2 : Same H (upd (upd H t (.tup [.int (lo : Nat), .int (hi : Nat)])) l (.lst [.ref t])) := (same_new ht).trans (same_new hl)
  refine ⟨rd, l, b, p, [(lo, hi)], rfl, hR.same s2, ⟨[t], .inl (.inl upd_same), rfl, fun j u hj => ?_⟩, by simp, fun r hr => ?_, ?_⟩
  · cases j with
    | zero =>
      obtain rfl : t = u := Option.some.inj hj
      refine ⟨(lo, hi), rfl, .inl (.inl ?_)⟩
      have ne : t ≠ l := ne_of_none upd_same hl
      rw [upd_ne ne, upd_same]
    | succ j => simp at hj
  · have : r = (lo, hi) := by simpa using hr
    rw [this]
    exact hlim
  · rw [canR_one, finR_one]
    unfold num at q
    revert q
    cases Fh.numberHere (Fh.begins lo hi) (Fh.within lo hi) (b.drop p) with
    | error k => exact fun q => q
    | ok x => exact fun q H' hR' hlt hK' => q H' hR' hlt ((Kp.same s2).trans hK')
/-! ### read_range -/
def spRange (CF CR : Addr) (K : PySem.W.Frag) : Sp := fun vs H Q E => ∃ (rd : Addr) (b : Fh.Bytes) (p lo : Nat), vs = [.ref rd, .int (lo : Nat)] ∧ RdAt CR K H rd b p ∧
  Out (rangeM lo (b.drop p)) p (fun r q => Good CR K H rd b p q fun H' => ∀ t, Fresh H t → H' t = some (.tup [.int (r.1 : Nat), .int (r.2 : Nat)]) → Q (.ref t) H') (Bad CF E)
theorem scRange : FnScope ["reader", "least", "low", "high"] ["reader", "least"] (defScope sRange) := ⟨rfl, rfl, rfl, by decide +kernel, rfl, by decide +kernel, by decide +kernel⟩
theorem ok_range {f : Addr} {fd : FuncData} (F : Fun K "read_range" "read_range" sRange f fd) (T : TxR K mg CR) (TN : TxN mg) (GT : MethOk P w K mg base (L2N.CX P w) 4 CR "take" ["self", "wanted"] (spTake CF CR K))
    (GN : MethOk P w K mg base (L2N.CX P w) 4 CR "take_number" ["self", "ranges"] (spNumber CF CR K)) : FnOk P w K mg base (L2N.CX P w) 5 f fd ["reader", "least"] (spRange CF CR K) := by
  refine okN F scRange (fun vs H Q E h => ?_) (fun cdv A outer s H vs Q E hr h => ?_)
  · obtain ⟨rd, b, p, lo, rfl, _⟩ := h
    rfl
  · obtain ⟨rd, b, p, lo, rfl, hR, hout⟩ := h
    refine ⟨_, pss_cons (ps_expr (pe_m GT T.cl hr (passN rfl rfl rfl rfl) (pv 0) (by exact (pa_cons (pe_lst (pa_cons (pe_k TN.blank (by rfl)) pa_nil)) pa_nil))))
      (pss_cons (ps_set (i := 2) scRange.nd rfl (Or.inl rfl) (pe_m GN T.cl hr (passN rfl rfl rfl rfl) (pv 0) (by exact (pa_cons (pe_lst (pa_cons (pe_tup (pa_cons (pv 1) (pa_cons (pe_k TN.lastN (by rfl)) pa_nil))) pa_nil)) pa_nil))))
      (pss_cons (ps_expr (pe_m GT T.cl hr (passN rfl rfl rfl rfl) (pv 0) (by exact (pa_cons (pe_lst (pa_cons (pe_k TN.hyphen (by rfl)) pa_nil)) pa_nil))))
      (pss_cons (ps_set (i := 3) scRange.nd rfl (Or.inl rfl) (pe_m GN T.cl hr (passN rfl rfl rfl rfl) (pv 0) (by exact (pa_cons (pe_lst (pa_cons (pe_tup (pa_cons (pv 2) (pa_cons (pe_k TN.lastN (by rfl)) pa_nil))) pa_nil)) pa_nil))))
      (pss_one (ps_ret (pe_tup (pa_cons (pv 2) (pa_cons (pv 3) pa_nil)))))))), ?_⟩
    unfold rangeM at hout
    refine m_take1 (n := 32) (E := E) (by omega) rfl hR (fun e1 H1 hR1 l1 hK1 => ?_) (fun e1 => ?_)
    · rw [if_neg (fun z => z e1), drop_more] at hout
      refine m_number (lo := lo) (hi := 1114111) (E := E) rfl hR1 (by decide) (fun Q' q => ⟨_, rfl, q⟩) (fun Q' q => q) ?_
      unfold num at hout ⊢
      show Out (Fh.numberHere (Fh.begins lo Fh.LARGEST) (Fh.within lo Fh.LARGEST) (b.drop (p + 1))) (p + 1) _ _
      cases hx : Fh.numberHere (Fh.begins lo Fh.LARGEST) (Fh.within lo Fh.LARGEST) (b.drop (p + 1)) with
      | error k =>
        rw [hx] at hout
        show Bad CF E (p + 1 + k)
        rw [Nat.add_assoc]
        exact hout
      | ok x =>
        rw [hx] at hout
        intro H2 hR2 l2 hK2
        simp only [drop_more] at hout
        refine m_take1 (n := 45) (E := E) (by omega) rfl hR2 (fun e2 H3 hR3 l3 hK3 => ?_) (fun e2 => ?_)
        · have e2' : lk (b.drop (p + (1 + x.2))) = 45 := by rw [← Nat.add_assoc]; exact e2
          rw [if_neg (fun z => z e2')] at hout
          refine m_number (lo := x.1) (hi := 1114111) (E := E) rfl hR3 (by decide) (fun Q' q => ⟨_, rfl, q⟩) (fun Q' q => q) ?_
          have ep : p + 1 + x.2 + 1 = p + (2 + x.2) := by omega
          rw [ep] at hR3 l3 ⊢
          unfold num
          show Out (Fh.numberHere (Fh.begins x.1 Fh.LARGEST) (Fh.within x.1 Fh.LARGEST) (b.drop (p + (2 + x.2)))) (p + (2 + x.2)) _ _
          cases hy : Fh.numberHere (Fh.begins x.1 Fh.LARGEST) (Fh.within x.1 Fh.LARGEST) (b.drop (p + (2 + x.2))) with
          | error k =>
            rw [hy] at hout
            show Bad CF E (p + (2 + x.2) + k)
            rw [Nat.add_assoc]
            exact hout
          | ok y =>
            rw [hy] at hout
            intro H4 hR4 l4 hK4
            have hK : Kp rd H H4 := ((hK1.trans hK2).trans hK3).trans hK4
            refine ⟨_, rfl, _, rfl, (by show 2 ≤ sizeLine; decide), fun t ht => ?_⟩
            have hR5 := hR4.same (same_new (o := .tup [.int (x.1 : Nat), .int (y.1 : Nat)]) ht)
            refine hout (upd H4 t (.tup [.int (x.1 : Nat), .int (y.1 : Nat)])) ?_ (by omega) (hK.trans (Kp.new ht)) t (fresh_of hR4 hK t ht) upd_same
            rw [show p + (2 + x.2 + y.2) = p + (2 + x.2) + y.2 by omega]
            exact hR5
        · have e2' : ¬ lk (b.drop (p + (1 + x.2))) = 45 := by rw [← Nat.add_assoc]; exact e2
          rw [if_pos e2'] at hout
          show Bad CF E (p + 1 + x.2)
          rw [Nat.add_assoc]
          exact hout
    · rw [if_pos e1] at hout
      exact hout
end
end Sg

/-! SgRt2 -/
set_option Elab.async false
set_option linter.all false
set_option maxRecDepth 100000
set_option maxHeartbeats 4000000
namespace Sg
open PySem PySem.Spec PyProof.Rows L2
theorem at_last {α : Type} (xs : List α) (v : α) : atI (xs ++ [v]) (-1) = some v := by
  have e : ixN (xs ++ [v]).length (-1) = some xs.length := by
    unfold ixN
    rw [if_neg (by omega), if_pos (by rw [List.length_append]; simp; omega), List.length_append]
    simp
    omega
  unfold atI
  rw [e]
  simp
theorem RgP.updL {F : Addr → Prop} {H : Hp} {ts : List Addr} {rs : List (Nat × Nat)} {L : Addr} {xs : List V} {o : HO} (h : RgP F H ts rs) (hL : H L = some (.lst xs)) : RgP F (upd H L o) ts rs := h.mono fun t r z => ⟨z.1, by
  rw [upd_ne (ne_of z.2 hL (by intro q; cases q))]
  exact z.2⟩
section
variable {P : Program} {w : World} {K : PySem.W.Frag} {mg : Str → Option Value} {base : Heap} {CF CR : Addr}
theorem t_look {σ : L2.St} {H : Hp} {Q : Bool → Hp → Prop} {i rd p n : Nat} {b : Fh.Bytes} {E : XK} (hi : σ[i]? = some (some (.ref rd))) (hR : RdAt CR K H rd b p) (h1 : lk (b.drop p) = n → Q true H) (h2 : ¬ lk (b.drop p) = n → Q false H) :
    tTest (tOp rEq (tMeth CR "look" (spLook CR K) [] E (tVar i) tNil) (tC (.int (n : Nat)))) σ H Q := by
  refine m_look hi hR ⟨rfl, _, rfl, ?_⟩
  rw [decI]
  by_cases q : lk (b.drop p) = n
  · rw [decide_eq_true q]; exact h1 q
  · rw [decide_eq_false q]; exact h2 q
theorem t_lookN {σ : L2.St} {H : Hp} {Q : Bool → Hp → Prop} {i rd p n : Nat} {b : Fh.Bytes} {E : XK} (hi : σ[i]? = some (some (.ref rd))) (hR : RdAt CR K H rd b p) (h1 : lk (b.drop p) = n → Q false H) (h2 : ¬ lk (b.drop p) = n → Q true H) :
    tTest (tOp rNe (tMeth CR "look" (spLook CR K) [] E (tVar i) tNil) (tC (.int (n : Nat)))) σ H Q := by
  refine m_look hi hR ⟨rfl, _, rfl, ?_⟩
  rw [decI]
  by_cases q : lk (b.drop p) = n
  · rw [decide_eq_true q]; exact h1 q
  · rw [decide_eq_false q]; exact h2 q
theorem sq_updL {H : Hp} {a L : Addr} {xs ys : List V} {o : HO} (h : SqL K H a xs) (hL : H L = some (.lst ys)) (hne : xs ≠ ys) : SqL K (upd H L o) a xs := by
  rcases h with (h | ⟨o', h⟩) | h
  · refine .inl (.inl ?_)
    rw [upd_ne (ne_of h hL (by intro z; cases z; exact hne rfl))]
    exact h
  · refine .inl (.inr ⟨o', ?_⟩)
    rw [upd_ne (ne_of h hL (by intro z; cases z))]
    exact h
  · exact .inr h
theorem TxtAt.updL {H : Hp} {a L : Addr} {b : Fh.Bytes} {ys : List V} {o : HO} (h : TxtAt K H a b) (hL : H L = some (.lst ys)) (hne : ∀ full : Fh.Bytes, b <+: full → bv full ≠ ys) : TxtAt K (upd H L o) a b := by
  obtain ⟨full, h1, h2⟩ := h
  exact ⟨full, sq_updL h1 hL (hne full h2), h2⟩
theorem RdAt.updL {H : Hp} {rd L p : Addr} {b : Fh.Bytes} {ys : List V} {o : HO} (h : RdAt CR K H rd b p) (hL : H L = some (.lst ys)) (hne : ∀ full : Fh.Bytes, b <+: full → bv full ≠ ys) : RdAt CR K (upd H L o) rd b p := by
  obtain ⟨⟨a, dx, h1, h2⟩, h3⟩ := h
  refine ⟨⟨a, dx, ?_, h2.updL hL hne⟩, h3⟩
  rw [upd_ne (ne_of h1 hL (by intro z; cases z))]
  exact h1
theorem bv_refs {b : Fh.Bytes} {l : List Addr} (h : 0 < b.length) : ∀ full : Fh.Bytes, b <+: full → bv full ≠ l.map V.ref := by
  intro full hp z
  have hl := hp.length_le
  match full, l with
  | [], _ =>
    have : b.length ≤ 0 := hl
    omega
  | c :: r, [] => exact absurd z (by unfold bv; simp)
  | c :: r, t :: l =>
    have z' : V.int ((c.toNat : Nat) : Int) :: bv r = V.ref t :: l.map V.ref := z
    cases (List.cons.inj z').1
/-! ### read_ranges -/
def spRanges (CF CR : Addr) (K : PySem.W.Frag) : Sp := fun vs H Q E => ∃ (rd : Addr) (b : Fh.Bytes) (p f : Nat), vs = [.ref rd] ∧ RdAt CR K H rd b p ∧ (b.drop p).length < f ∧
  OutA (Fh.rangesFrom f p [] (b.drop p)) (fun l q => Good CR K H rd b p q fun H' => ∀ a, RgL (Fresh H) H' a l → Q (.ref a) H') (Bad CF E)
theorem scRanges : FnScope ["reader", "ranges"] ["reader"] (defScope sRanges) := ⟨rfl, rfl, rfl, by decide +kernel, rfl, by decide +kernel, by decide +kernel⟩
theorem len_drop (b : Fh.Bytes) (q : Nat) : (b.drop q).length = b.length - q := List.length_drop ..
theorem ok_ranges {f : Addr} {fd : FuncData} (F : Fun K "read_ranges" "read_ranges" sRanges f fd) (T : TxR K mg CR) (TN : TxN mg) (GL : MethOk P w K mg base CX0 3 CR "look" ["self"] (spLook CR K)) (GT : MethOk P w K mg base (L2N.CX P w) 4 CR "take" ["self", "wanted"] (spTake CF CR K))
    (GR : CallOk P w K mg base (L2N.CX P w) 5 "read_range" ["reader", "least"] (spRange CF CR K)) : FnOk P w K mg base (L2N.CX P w) 6 f fd ["reader"] (spRanges CF CR K) := by
  refine okN F scRanges (fun vs H Q E h => ?_) (fun cdv A outer s H vs Q E hr h => ?_)
  · obtain ⟨rd, b, p, f, rfl, _⟩ := h
    rfl
  · obtain ⟨rd, b, p, fu, rfl, hR, hfu, hout⟩ := h
    have hr2 : Room 3 (A.deeper (envOfC (Str.ofString "read_ranges") (defScope sRanges) s.heap.objs.size f cdv)) := hr.mono (by decide)
    have hr3 : Room 4 (A.deeper (envOfC (Str.ofString "read_ranges") (defScope sRanges) s.heap.objs.size f cdv)) := hr.mono (by decide)
    refine ⟨_, pss_cons (ps_set (i := 1) scRanges.nd rfl (Or.inl rfl) (pe_lst (pa_cons (pe_c GR hr (by rfl) (passN rfl rfl rfl rfl) (by exact (pa_cons (pv 0) (pa_cons pe_int pa_nil)))) pa_nil)))
      (pss_cons (ps_while (passes_of rfl) (PW.pt (pw_and (pt_cmpR op_eq (pe_m0 GL T.cl hr2 pass0 (pv 0)) (pe_k TN.blank (by rfl)) (nomark _)) (pw_and1 (pt_cmpR op_lt (pe_ix ix_tup (pe_ix ix_list (pv 1) (pe_un un_neg pe_int) (fun _ _ => rfl)) pe_int (fun _ _ => rfl)) (pe_k TN.lastN (by rfl)) (nomark _)))))
        (pss_one (ps_expr (pe_bm PySem.F.plainAttrs_list PySem.F.slot_list_append PySem.F.type_list_append mt_append (pv 1) (pa_cons (pe_c GR hr (by rfl) (passN rfl rfl rfl rfl) (by exact (pa_cons (pv 0) (pa_cons (pe_op op_add (pe_ix ix_tup (pe_ix ix_list (pv 1) (pe_un un_neg pe_int) (fun _ _ => rfl)) pe_int (fun _ _ => rfl)) pe_int) pa_nil)))) pa_nil)))))
      (pss_cons (ps_expr (pe_m GT T.cl hr3 (passN rfl rfl rfl rfl) (pv 0) (by exact (pa_cons (pe_lst (pa_cons (pe_k TN.lf (by rfl)) pa_nil)) pa_nil))))
      (pss_one (ps_ret (pv 1))))), ?_⟩
    obtain ⟨fu, rfl⟩ : ∃ g, fu = g + 1 := ⟨fu - 1, by omega⟩
    have first : Fh.rangesFrom (fu + 1) p [] (b.drop p) = rangesStep fu p [] (b.drop p) := by
      rw [rangesFrom_step, if_neg (fun z => z.2 rfl)]
      by_cases q : lk (b.drop p) = 32
      · rw [if_neg]
        rintro (z | z)
        · exact z q
        · exact absurd z (by decide)
      · rw [if_pos (.inl q)]
        unfold rangesStep rangeM
        rw [if_pos q]
        rfl
    refine ⟨_, rfl, rd, b, p, 0, rfl, hR, ?_⟩
    unfold rangesStep at first
    cases hx : rangeM 0 (b.drop p) with
    | error k =>
      rw [first, show nextLo [] = 0 from rfl, hx] at hout
      exact hout
    | ok x =>
      rw [show nextLo [] = 0 from rfl, hx] at first
      rw [first] at hout
      simp only [drop_more] at first hout
      intro H1 hR1 l1 hK1 t ht hT
      refine ⟨(by show 1 ≤ sizeLine; decide), fun L hL => ?_⟩
      have hLf : Fresh H L := fresh_of hR1 hK1 L hL
      refine ⟨fun m σ H' => ∃ (q g : Nat) (l : List (Nat × Nat)) (y : Nat × Nat) (ts : List Addr) (u : Addr), σ = [some (.ref rd), some (.ref L)] ∧ RdAt CR K H' rd b q ∧ p < q ∧ Kp rd H H' ∧ H' L = some (.lst ((ts ++ [u]).map V.ref)) ∧ RgP (Fresh H) H' ts l.reverse ∧ Fresh H u ∧ H' u = some (.tup [.int (y.1 : Nat), .int (y.2 : Nat)]) ∧
          (b.drop q).length < g ∧ Fh.rangesFrom g q (y :: l) (b.drop q) = Fh.rangesFrom fu (p + x.2) [x.1] (b.drop (p + x.2)) ∧ l.length < q ∧ m = b.length - q,
        ⟨_, p + x.2, fu, [], x.1, [], t, rfl, hR1.same (same_new hL), l1, hK1.trans (Kp.new hL), upd_same, .nil, ht, ?_, ?_, rfl, by show 0 < _; omega, rfl⟩, ?_⟩
      · rw [upd_ne (ne_of_none hT hL)]
        exact hT
      · rw [len_drop] at hfu ⊢
        have := hR1.2.1
        omega
      · rintro m σ H' ⟨q, g, l, y, ts, u, rfl, hR', hpq, hK', hHL, hP, hu, hU, hg, heq, hlen, rfl⟩
        obtain ⟨g, rfl⟩ : ∃ g', g = g' + 1 := ⟨g - 1, by omega⟩
        rw [← heq, rangesFrom_step] at hout
        have hat : atI ((ts ++ [u]).map V.ref) (-1) = some (.ref u) := by
          rw [List.map_append]
          exact at_last _ _
        -- behind the loop
        have fin : (¬ lk (b.drop q) = 32 ∨ ¬ y.2 < 1114111) → tSeq (tDrop (tMeth CR "take" (spTake CF CR K) [] E (tVar 0) (tCons (tLst (tCons (tC (.int 10)) tNil)) tNil))) (tRet (tVar 1)) { nx := fun _ H' => Q .non H', rt := Q } [some (.ref rd), some (.ref L)] H' := by
          intro hz
          refine m_take1 (n := 10) (E := E) (by omega) rfl hR' (fun e1 H2 hR2 l2 hK2 => ?_) (fun e1 => ?_)
          · rw [if_pos ⟨e1, by simp⟩] at hout
            refine ⟨_, rfl, hout H2 hR2 (by omega) (hK'.trans hK2) L ⟨hLf, ts ++ [u], hR.fresh hK2 _ _ hLf hHL, ?_⟩⟩
            rw [List.reverse_cons]
            exact paired_snoc (hP.keep (hR.fresh hK2)) ⟨hu, hR.fresh hK2 _ _ hu hU⟩
          · rw [if_neg (fun z => e1 z.1)] at hout
            by_cases q32 : lk (b.drop q) = 32
            · rw [if_pos (.inr (by show 1114111 < y.2 + 1; omega))] at hout
              exact hout
            · rw [if_pos (.inl q32)] at hout
              exact hout
        refine t_look (n := 32) rfl hR' (fun e32 => iteT ?_) (fun e32 => iteF (iteF (fin (.inl e32))))
        refine ⟨_, rfl, _, rfl, L, _, _, _, rfl, rfl, .inl (.inl hHL), hat, u, _, _, _, rfl, rfl, .inl (.inl hU), atI_nat (j := 1) (v := .int (y.2 : Nat)) rfl, _, _, rfl, rfl, _, rfl, tst (fun q1 => ?_) (fun q1 => fin (.inr (by omega)))⟩
        rw [if_neg (fun z => by omega), if_neg (by rintro (z | z); exact z e32; exact absurd z (by show ¬ 1114111 < y.2 + 1; omega))] at hout
        unfold rangesStep at hout
        refine ⟨fun σ' H2 => ∃ (z : (Nat × Nat) × Nat) (v : Addr), rangeM (nextLo (y :: l)) (b.drop q) = .ok z ∧ σ' = [some (.ref rd), some (.ref L)] ∧ RdAt CR K H2 rd b (q + z.2) ∧ q < q + z.2 ∧ Kp rd H H2 ∧ H2 L = some (.lst ((ts ++ [u] ++ [v]).map V.ref)) ∧ RgP (Fresh H) H2 ts l.reverse ∧ (Fresh H u ∧ H2 u = some (.tup [.int (y.1 : Nat), .int (y.2 : Nat)])) ∧ Fresh H v ∧ H2 v = some (.tup [.int (z.1.1 : Nat), .int (z.1.2 : Nat)]), ?_, ?_⟩
        · rintro σ' H2 ⟨z, v, hz, e1, e2, e3, e4, e5, e6, e7, e8, e9⟩
          refine ⟨_, ?_, q + z.2, g, y :: l, z.1, ts ++ [u], v, e1, e2, by omega, e4, e5, ?_, e8, e9, ?_, ?_, ?_, rfl⟩
          · have := e2.2.1
            omega
          · rw [List.reverse_cons]
            exact paired_snoc e6 e7
          · rw [len_drop] at hg ⊢
            have := e2.2.1
            omega
          · rw [← heq, rangesFrom_step, if_neg (fun z => by omega), if_neg (by rintro (z | z); exact z e32; exact absurd z (by show ¬ 1114111 < y.2 + 1; omega))]
            unfold rangesStep
            rw [hz]
            simp only [drop_more]
          · rw [List.length_cons]; omega
        · refine ⟨_, rfl, .inl ⟨rfl, _, SqL.of hHL⟩, _, rfl, _, rfl, _, rfl, L, _, _, _, rfl, rfl, .inl (.inl hHL), hat, u, _, _, _, rfl, rfl, .inl (.inl hU), atI_nat (j := 1) (v := .int (y.2 : Nat)) rfl, _, _, rfl, rfl, rd, b, q, y.2 + 1, rfl, hR', ?_⟩
          have enx : nextLo (y :: l) = y.2 + 1 := rfl
          rw [enx] at hout ⊢
          cases hz : rangeM (y.2 + 1) (b.drop q) with
          | error k =>
            rw [hz] at hout
            exact hout
          | ok z =>
            intro H2 hR2 l2 hK2 v hv hV
            have hL2 := hR.fresh hK2 _ _ hLf hHL
            refine ⟨L, _, _, rfl, rfl, hL2, ?_, z, v, rfl, rfl, ?_⟩
            · rw [List.length_map, List.length_append, hP.length, List.length_reverse]
              have h1 := hR'.2.1
              have h2 := hR'.2.2
              have : (262146 : Nat) < sizeLine := by decide
              simp
              omega
            · have hb : 0 < b.length := by have := hR2.2.1; omega
              have ev : (ts ++ [u]).map V.ref ++ [V.ref v] = (ts ++ [u] ++ [v]).map V.ref := by rw [List.map_append (l₂ := [v])]; rfl
              have hVn : v ≠ L := ne_of hV hL2 (by intro z; cases z)
              have hU2 := hR.fresh hK2 _ _ hu hU
              have hUn : u ≠ L := ne_of hU2 hL2 (by intro z; cases z)
              have hKL : Kp rd H2 (upd H2 L (.lst ((ts ++ [u] ++ [v]).map V.ref))) → True := fun _ => trivial
              refine ⟨hR2.updL hL2 (bv_refs hb), l2, fun c o e n => ?_, by rw [upd_same, ev], (hP.keep (hR.fresh hK2)).updL hL2, ⟨hu, by rw [upd_ne hUn]; exact hU2⟩, fresh_of hR' hK' v hv, by rw [upd_ne hVn]; exact hV⟩
              have hcL : c ≠ L := fun z => by
                rw [z] at e
                rw [show H L = none from hLf] at e
                cases e
              rw [upd_ne hcL]
              exact hK2 c o (hK' c o e n) n
end
end Sg

/-! SgRt3 -/
set_option Elab.async false
set_option linter.all false
set_option maxRecDepth 100000
set_option maxHeartbeats 4000000
namespace Sg
open PySem PySem.Spec PyProof.Rows L2
def nvs (l : List Nat) : List V := l.map fun (n : Nat) => V.int (n : Nat)
theorem nvs_len (l : List Nat) : (nvs l).length = l.length := by unfold nvs; rw [List.length_map]
theorem bv_nvs {b : Fh.Bytes} {l : List Nat} (h : l.length < b.length) : ∀ full : Fh.Bytes, b <+: full → bv full ≠ nvs l := fun full hp z => by
  have hl := hp.length_le
  have := congrArg List.length z
  rw [bv_len, nvs_len] at this
  omega
def litM (b : Fh.Bytes) : Except Nat (List Nat × Nat) := match Fh.litFrom ((b.drop 1).length + 1) 0 [] (b.drop 1) with
  | .ok x => .ok (x.1, x.2 + 1)
  | .error k => .error (k + 1)
theorem litAtom_is (b : Fh.Bytes) : litAtom b = match litM b with
    | .ok x => .ok (.lit x.1, x.2)
    | .error k => .error k := by
  unfold litAtom litM
  cases Fh.litFrom ((b.drop 1).length + 1) 0 [] (b.drop 1) <;> rfl
def AtomAt (F : Addr → Prop) (H : Hp) (k : Int) (v : V) : Fh.Atom → Prop
  | .any => k = 0 ∧ v = .int 0
  | .cls n => k = 1 ∧ v = .int (n : Nat)
  | .lit t => k = 2 ∧ ∃ a, v = .ref a ∧ F a ∧ H a = some (.lst (nvs t))
theorem AtomAt.keep {F : Addr → Prop} {H H' : Hp} {k : Int} {v : V} {a : Fh.Atom} (h : AtomAt F H k v a) (g : ∀ b o, F b → H b = some o → H' b = some o) : AtomAt F H' k v a := by
  cases a with
  | any => exact h
  | cls n => exact h
  | lit t =>
    obtain ⟨h1, x, h2, h3, h4⟩ := h
    exact ⟨h1, x, h2, h3, g _ _ h3 h4⟩
theorem AtomAt.imp {F G : Addr → Prop} {H : Hp} {k : Int} {v : V} {a : Fh.Atom} (h : AtomAt F H k v a) (g : ∀ b, F b → G b) : AtomAt G H k v a := by
  cases a with
  | any => exact h
  | cls n => exact h
  | lit t =>
    obtain ⟨h1, x, h2, h3, h4⟩ := h
    exact ⟨h1, x, h2, g _ h3, h4⟩
theorem canR_rev (l : List (Nat × Nat)) : canR l.reverse = canR l := by
  funext v
  unfold canR
  rw [List.any_reverse]
theorem finR_rev (l : List (Nat × Nat)) : finR l.reverse = finR l := by
  funext v
  unfold finR
  rw [List.any_reverse]
section
variable {P : Program} {w : World} {K : PySem.W.Frag} {mg : Str → Option Value} {base : Heap} {CF CR : Addr}
/-! ### read_certain -/
def spCertain (CF CR : Addr) (K : PySem.W.Frag) : Sp := fun vs H Q E => ∃ (rd : Addr) (b : Fh.Bytes) (p : Nat), vs = [.ref rd] ∧ RdAt CR K H rd b p ∧ lk (b.drop p) = 34 ∧
  Out (litM (b.drop p)) p (fun l q => Good CR K H rd b p q fun H' => ∀ a, Fresh H a → H' a = some (.lst (nvs l)) → Q (.ref a) H') (Bad CF E)
theorem scCertain : FnScope ["reader", "characters"] ["reader"] (defScope sCertain) := ⟨rfl, rfl, rfl, by decide +kernel, rfl, by decide +kernel, by decide +kernel⟩
theorem ok_certain {f fI : Addr} {fd fdI : FuncData} (F : Fun K "read_certain" "read_certain" sCertain f fd) (T : TxR K mg CR) (TN : TxN mg) (TF : TxF K mg CF) (GL : MethOk P w K mg base CX0 3 CR "look" ["self"] (spLook CR K)) (GT : MethOk P w K mg base (L2N.CX P w) 4 CR "take" ["self", "wanted"] (spTake CF CR K))
    (GC : MethOk P w K mg base (L2N.CX P w) 4 CR "take_character" ["self"] (spChar CF CR K))
    (iF : PySem.W.findIn K (.ref CF) "__init__" = some (some (.ref fI))) (tF : PySem.W.typeIn K (.ref fI) = some (.type "function")) (FI : FnOk P w K mg base CX0 2 fI fdI ["self", "place"] (spFault CF)) (bI : Binds K fdI ["self", "place"] []) :
    FnOk P w K mg base (L2N.CX P w) 5 f fd ["reader"] (spCertain CF CR K) := by
  refine okN F scCertain (fun vs H Q E h => ?_) (fun cdv A outer s H vs Q E hr h => ?_)
  · obtain ⟨rd, b, p, rfl, _⟩ := h
    rfl
  · obtain ⟨rd, b, p, rfl, hR, h34, hout⟩ := h
    have hr2 : Room 3 (A.deeper (envOfC (Str.ofString "read_certain") (defScope sCertain) s.heap.objs.size f cdv)) := hr.mono (by decide)
    refine ⟨_, pss_cons (ps_expr (pe_m GT T.cl hr (passN rfl rfl rfl rfl) (pv 0) (by exact (pa_cons (pe_lst (pa_cons (pe_k TN.quote (by rfl)) pa_nil)) pa_nil))))
      (pss_cons (ps_if (pt_cmpR op_eq (pe_m0 GL T.cl hr2 pass0 (pv 0)) (pe_k TN.quote (by rfl)) (nomark _)) (pss_one (L2N.ps_raise rfl (L2N.takes_of rfl rfl rfl rfl) (pmk_oexN TF.ox iF tF FI hr2 bI .nil pass0 (by rfl) TF.g (pa_cons (pe_fld (pv 0) rfl) pa_nil)))) pss_nil)
      (pss_cons (ps_set (i := 1) scCertain.nd rfl (Or.inl rfl) (pe_lst pa_nil))
      (pss_cons (ps_while (passes_of rfl) (pt_cmpR op_ne (pe_m0 GL T.cl hr2 pass0 (pv 0)) (pe_k TN.quote (by rfl)) (nomark _))
        (pss_one (ps_expr (pe_bm PySem.F.plainAttrs_list PySem.F.slot_list_append PySem.F.type_list_append mt_append (pv 1) (pa_cons (pe_m0 GC T.cl hr (passN rfl rfl rfl rfl) (pv 0)) pa_nil)))))
      (pss_cons (ps_expr (pe_m GT T.cl hr (passN rfl rfl rfl rfl) (pv 0) (by exact (pa_cons (pe_lst (pa_cons (pe_k TN.quote (by rfl)) pa_nil)) pa_nil))))
      (pss_one (ps_ret (pv 1))))))), ?_⟩
    unfold litM at hout
    rw [drop_more] at hout
    refine m_take1 (n := 34) (E := E) (by omega) rfl hR (fun _ H1 hR1 l1 hK1 => ?_) (fun e1 => absurd h34 e1)
    refine t_look (n := 34) rfl hR1 (fun q34 => iteT ?_) (fun q34 => iteF ?_)
    · refine raise_at T rfl hR1 ?_
      rw [litFrom_step, if_pos q34, if_pos rfl] at hout
      exact hout
    · refine ⟨(by show 0 ≤ sizeLine; decide), fun L hL => ?_⟩
      have hLf : Fresh H L := fresh_of hR1 hK1 L hL
      refine ⟨fun m σ H' => ∃ (n g : Nat) (l : List Nat), σ = [some (.ref rd), some (.ref L)] ∧ RdAt CR K H' rd b (p + 1 + n) ∧ Kp rd H H' ∧ H' L = some (.lst (nvs l.reverse)) ∧ (b.drop (p + 1 + n)).length < g ∧
          Fh.litFrom g n l (b.drop (p + 1 + n)) = Fh.litFrom ((b.drop (p + 1)).length + 1) 0 [] (b.drop (p + 1)) ∧ l.length ≤ n ∧ (l = [] → n = 0) ∧ m = b.length - (p + 1 + n),
        ⟨_, 0, _, [], rfl, hR1.same (same_new hL), hK1.trans (Kp.new hL), upd_same, Nat.lt_succ_self _, rfl, Nat.le_refl _, fun _ => rfl, rfl⟩, ?_⟩
      rintro m σ H' ⟨n, g, l, rfl, hR', hK', hHL, hg, heq, hlen, hnil, rfl⟩
      obtain ⟨g, rfl⟩ : ∃ g', g = g' + 1 := ⟨g - 1, by omega⟩
      rw [← heq, litFrom_step] at hout
      refine t_lookN (n := 34) rfl hR' (fun e34 => iteF ?_) (fun e34 => iteT ?_)
      · have hl : l ≠ [] := fun z => by
          have := hnil z
          subst this
          exact q34 e34
        rw [if_pos e34, if_neg hl] at hout
        refine m_take1 (n := 34) (E := E) (by omega) rfl hR' (fun _ H2 hR2 l2 hK2 => ?_) (fun e1 => absurd e34 e1)
        refine ⟨_, rfl, hout H2 ?_ (by omega) (hK'.trans hK2) L hLf (hR.fresh hK2 _ _ hLf hHL)⟩
        rw [show p + (n + 1 + 1) = p + 1 + n + 1 by omega]
        exact hR2
      · rw [if_neg e34] at hout
        refine ⟨fun σ' H2 => ∃ z : Nat × Nat, Fh.charHere (b.drop (p + 1 + n)) = .ok z ∧ σ' = [some (.ref rd), some (.ref L)] ∧ RdAt CR K H2 rd b (p + 1 + n + z.2) ∧ p + 1 + n < p + 1 + n + z.2 ∧ Kp rd H H2 ∧ H2 L = some (.lst (nvs (z.1 :: l).reverse)), ?_, ?_⟩
        · rintro σ' H2 ⟨z, hz, e1, e2, e3, e4, e5⟩
          rw [show p + 1 + n + z.2 = p + 1 + (n + z.2) by omega] at e2
          refine ⟨_, ?_, n + z.2, g, z.1 :: l, e1, e2, e4, e5, ?_, ?_, ?_, (fun z => by cases z), rfl⟩
          · have := e2.2.1
            omega
          · rw [len_drop] at hg ⊢
            have := e2.2.1
            omega
          · rw [← heq, litFrom_step, if_neg e34, hz]
            simp only [drop_more]
            rw [show p + 1 + (n + z.2) = p + 1 + n + z.2 by omega]
          · rw [List.length_cons]; omega
        · refine ⟨_, rfl, .inl ⟨rfl, _, SqL.of hHL⟩, ?_⟩
          refine m_char (CF := CF) rfl hR' ?_
          cases hz : Fh.charHere (b.drop (p + 1 + n)) with
          | error k =>
            rw [hz] at hout
            show Bad CF E (p + 1 + n + k)
            rw [show p + 1 + n + k = p + (n + k + 1) by omega]
            exact hout
          | ok z =>
            intro H2 hR2 l2 hK2
            have hL2 := hR.fresh hK2 _ _ hLf hHL
            have hlt : l.length < b.length := by have := hR2.2.1; omega
            refine ⟨L, _, _, rfl, rfl, hL2, ?_, z, rfl, rfl, ?_⟩
            · rw [nvs_len, List.length_reverse]
              have h2 := hR2.2.2
              have : (262146 : Nat) < sizeLine := by decide
              omega
            · refine ⟨hR2.updL hL2 (bv_nvs (by rw [List.length_reverse]; exact hlt)), l2, fun c o e nn => ?_, ?_⟩
              · have hcL : c ≠ L := fun z => by
                  rw [z] at e
                  rw [show H L = none from hLf] at e
                  cases e
                rw [upd_ne hcL]
                exact hK2 c o (hK' c o e nn) nn
              · rw [upd_same]
                unfold nvs
                simp
/-! ### read_atom -/
def spAtom (CF CR : Addr) (K : PySem.W.Frag) : Sp := fun vs H Q E => ∃ (rd ka : Addr) (b : Fh.Bytes) (p : Nat) (kn : List Nat), vs = [.ref rd, .ref ka] ∧ RdAt CR K H rd b p ∧ SqL K H ka (nvs kn) ∧ kn.length ≤ 16 ∧ (∀ s ∈ kn, s ≤ 15) ∧
  Out (Fh.atomHere kn.reverse (b.drop p)) p (fun a q => Good CR K H rd b p q fun H' => ∀ (t : Addr) (k : Int) (v : V), Fresh H t → H' t = some (.tup [.int k, v]) → AtomAt (Fresh H) H' k v a → Q (.ref t) H') (Bad CF E)
theorem scAtom : FnScope ["reader", "known", "number"] ["reader", "known"] (defScope sAtom) := ⟨rfl, rfl, rfl, by decide +kernel, rfl, by decide +kernel, by decide +kernel⟩
theorem ok_atom {f : Addr} {fd : FuncData} (F : Fun K "read_atom" "read_atom" sAtom f fd) (T : TxR K mg CR) (TN : TxN mg) (GL : MethOk P w K mg base CX0 3 CR "look" ["self"] (spLook CR K)) (GT : MethOk P w K mg base (L2N.CX P w) 4 CR "take" ["self", "wanted"] (spTake CF CR K))
    (GN : MethOk P w K mg base (L2N.CX P w) 4 CR "take_number" ["self", "ranges"] (spNumber CF CR K)) (GC : CallOk P w K mg base (L2N.CX P w) 5 "read_certain" ["reader"] (spCertain CF CR K)) : FnOk P w K mg base (L2N.CX P w) 6 f fd ["reader", "known"] (spAtom CF CR K) := by
  refine okN F scAtom (fun vs H Q E h => ?_) (fun cdv A outer s H vs Q E hr h => ?_)
  · obtain ⟨rd, ka, b, p, kn, rfl, _⟩ := h
    rfl
  · obtain ⟨rd, ka, b, p, kn, rfl, hR, hkn, hk16, hk15, hout⟩ := h
    have hr2 : Room 3 (A.deeper (envOfC (Str.ofString "read_atom") (defScope sAtom) s.heap.objs.size f cdv)) := hr.mono (by decide)
    have hr3 : Room 4 (A.deeper (envOfC (Str.ofString "read_atom") (defScope sAtom) s.heap.objs.size f cdv)) := hr.mono (by decide)
    refine ⟨_, pss_cons (ps_if (pt_cmpR op_eq (pe_m0 GL T.cl hr2 pass0 (pv 0)) (pe_k TN.quote (by rfl)) (nomark _)) (pss_one (ps_ret (pe_tup (pa_cons (pe_k TN.certain (by rfl)) (pa_cons (pe_c GC hr (by rfl) (passN rfl rfl rfl rfl) (by exact (pa_cons (pv 0) pa_nil))) pa_nil))))) pss_nil)
      (pss_cons (ps_if (PW.pt (pw_and (pt_cmpR op_eq (pe_m0 GL T.cl hr2 pass0 (pv 0)) (pe_k TN.percent (by rfl)) (nomark _)) (pw_and1 (pt_truth (pv 1) (by intro _; rfl)))))
        (pss_cons (ps_expr (pe_m GT T.cl hr3 (passN rfl rfl rfl rfl) (pv 0) (by exact (pa_cons (pe_lst (pa_cons (pe_k TN.percent (by rfl)) pa_nil)) pa_nil))))
        (pss_one (ps_ret (pe_tup (pa_cons (pe_k TN.ofClass (by rfl)) (pa_cons (pe_m GN T.cl hr3 (passN rfl rfl rfl rfl) (pv 0) (by exact (pa_cons (pe_lc (own := [("number", 2)]) (g := gName 2) (tt := tYes) rfl scAtom.nd (pi_list (pv 1)) (blkOk_by (N := ["reader", "known", "number"]) (sc := defScope sAtom) (by decide +kernel))
            (fun _ _ _ _ _ => pg_name (i := 2) scAtom.nd rfl (Or.inl rfl)) (fun _ _ _ _ _ => pts_nil) (fun _ _ _ _ _ => pe_tup (pa_cons (pv 2) (pa_cons (pv 2) pa_nil)))) pa_nil))) pa_nil)))))) pss_nil)
      (pss_cons (ps_expr (pe_m GT T.cl hr3 (passN rfl rfl rfl rfl) (pv 0) (by exact (pa_cons (pe_lst (pa_cons (pe_k TN.dot (by rfl)) pa_nil)) pa_nil))))
      (pss_one (ps_ret (pe_tup (pa_cons (pe_k TN.anyK (by rfl)) (pa_cons pe_int pa_nil))))))), ?_⟩
    rw [atomHere_step _ (fun s hs => hk15 s (List.mem_reverse.mp hs))] at hout
    have two : 2 ≤ sizeLine := by decide
    refine t_look (n := 34) rfl hR (fun e34 => iteT ?_) (fun e34 => iteF ?_)
    · rw [if_pos e34, litAtom_is] at hout
      refine ⟨_, rfl, rd, b, p, rfl, hR, e34, ?_⟩
      cases hx : litM (b.drop p) with
      | error k =>
        rw [hx] at hout
        exact hout
      | ok x =>
        rw [hx] at hout
        intro H1 hR1 l1 hK1 a ha hA
        refine ⟨two, fun t ht => ?_⟩
        have nat : a ≠ t := ne_of_none hA ht
        exact hout _ (hR1.same (same_new ht)) l1 (hK1.trans (Kp.new ht)) t 2 (.ref a) (fresh_of hR1 hK1 t ht) upd_same ⟨rfl, a, rfl, ha, by rw [upd_ne nat]; exact hA⟩
    · rw [if_neg e34] at hout
      have last : ¬ (lk (b.drop p) = 37 ∧ kn.reverse ≠ []) → tSeq (tDrop (tMeth CR "take" (spTake CF CR K) [] E (tVar 0) (tCons (tLst (tCons (tC (.int 46)) tNil)) tNil))) (tRet (tTup (tCons (tC (.int 0)) (tCons (tC (.int 0)) tNil)))) { nx := fun _ H' => Q .non H', rt := Q } (start ["reader", "known", "number"] [.ref rd, .ref ka]) H := by
        intro hz
        rw [if_neg hz] at hout
        refine m_take1 (n := 46) (E := E) (by omega) rfl hR (fun e1 H1 hR1 l1 hK1 => ?_) (fun e1 => ?_)
        · rw [if_pos e1] at hout
          refine ⟨two, fun t ht => ?_⟩
          exact hout _ (hR1.same (same_new ht)) l1 (hK1.trans (Kp.new ht)) t 0 (.int 0) (fresh_of hR1 hK1 t ht) upd_same ⟨rfl, rfl⟩
        · rw [if_neg e1] at hout
          exact hout
      refine t_look (n := 37) rfl hR (fun e37 => iteT ?_) (fun e37 => iteF (iteF (last fun z => e37 z.1)))
      refine ⟨_, rfl, !(nvs kn).isEmpty, .inl ⟨_, hkn, rfl⟩, ?_⟩
      cases hk : kn with
      | nil => exact iteF (last fun z => z.2 (by rw [hk]; rfl))
      | cons k0 kr =>
        refine iteT ?_
        have hne : kn.reverse ≠ [] := by rw [hk]; simp
        rw [if_pos ⟨e37, hne⟩] at hout
        unfold clsAtom at hout
        rw [List.map_reverse, canR_rev, finR_rev, drop_more] at hout
        refine m_take1 (n := 37) (E := E) (by omega) rfl hR (fun _ H1 hR1 l1 hK1 => ?_) (fun e1 => absurd e37 e1)
        obtain ⟨⟨ta, dx, g1, g2⟩, _⟩ := id hR1
        refine ⟨_, rfl, rd, dx, _, rfl, g1, rdF_no _ _ (by decide +kernel) (by decide +kernel), ?_⟩
        obtain ⟨dx0, fs0, hi0⟩ := hR.ins
        have hkn1 := sq_kp hi0 hK1 hkn
        refine ⟨_, rfl, ka, rfl, ⟨_, hkn1⟩, fun D hD => ?_⟩
        refine lc_list (K := K) (a := ka) (xs := nvs kn) (fun i H' => Same H1 H' ∧ ∃ ts : List Addr, H' D = some (.lst (ts.map V.ref)) ∧ ts.length = i ∧ ∀ (j : Nat) (t : Addr), ts[j]? = some t → ∃ z : Nat, kn[j]? = some z ∧ H' t = some (.tup [.int (z : Nat), .int (z : Nat)]))
          ⟨same_new hD, [], upd_same, rfl, fun j t e => by simp at e⟩ (fun i H' _ hP => hP.1.seq hkn1) (fun i x H' hx hP => ?_) (fun H' hP => ?_)
        · obtain ⟨hs, ts, hl, hlen, hts⟩ := hP
          unfold nvs at hx
          rw [List.getElem?_map] at hx
          cases hz : kn[i]? with
          | none => rw [hz] at hx; cases hx
          | some z =>
            rw [hz] at hx
            obtain rfl : V.int (z : Nat) = x := Option.some.inj hx
            refine ⟨rfl, iteT (B := Same H1 H' ∧ ∃ ts : List Addr, H' D = some (.lst (ts.map V.ref)) ∧ ts.length = i + 1 ∧ ∀ (j : Nat) (t : Addr), ts[j]? = some t → ∃ z : Nat, kn[j]? = some z ∧ H' t = some (.tup [.int (z : Nat), .int (z : Nat)])) ?_⟩
            refine ⟨_, rfl, _, rfl, two, fun t ht => ?_⟩
            have hDt : D ≠ t := ne_of_none hl ht
            have hi16 : i < kn.length := (List.getElem?_eq_some_iff.mp hz).1
            refine ⟨_, by rw [upd_ne hDt]; exact hl, ?_, fun c o e => ?_, ts ++ [t], ?_, by rw [List.length_append, hlen]; rfl, fun j u hj => ?_⟩
            · rw [List.length_map, hlen]
              have : (16 : Nat) < sizeLine := by decide
              omega
            · have hcD : c ≠ D := ne_of_none e hD
              rw [upd_ne hcD, upd_ne (ne_of_none (hs c o e) ht)]
              exact hs c o e
            · rw [upd_same, List.map_append]
              rfl
            · by_cases hjl : j < ts.length
              · rw [List.getElem?_append_left hjl] at hj
                obtain ⟨y, h1, h2⟩ := hts j u hj
                refine ⟨y, h1, ?_⟩
                rw [upd_ne (ne_of h2 hl (by intro q; cases q)), upd_ne (ne_of_none h2 ht)]
                exact h2
              · have hju : j = ts.length ∧ t = u := by
                  rw [List.getElem?_append_right (by omega)] at hj
                  cases hjj : j - ts.length with
                  | zero =>
                    rw [hjj] at hj
                    exact ⟨by omega, Option.some.inj hj⟩
                  | succ m => rw [hjj] at hj; simp at hj
                obtain ⟨hj1, hj2⟩ := hju
                subst hj1 hj2
                refine ⟨z, by rw [hlen]; exact hz, ?_⟩
                rw [upd_ne hDt.symm, upd_same]
        · obtain ⟨hs, ts, hl, hlen, hts⟩ := hP
          have hlk : ts.length = kn.length := by rw [hlen, nvs_len]
          refine ⟨rd, D, b, p + 1, kn.map fun z => (z, z), rfl, hR1.same hs, ⟨ts, .inl (.inl hl), by rw [List.length_map, hlk], fun j t hj => ?_⟩, by rw [List.length_map]; omega, fun r hr' => ?_, ?_⟩
          · obtain ⟨z, h1, h2⟩ := hts j t hj
            refine ⟨(z, z), by rw [List.getElem?_map, h1]; rfl, .inl (.inl h2)⟩
          · obtain ⟨z, hz, rfl⟩ := List.mem_map.mp hr'
            have := hk15 z hz
            show z < 10 ^ 8
            omega
          · revert hout
            cases Fh.numberHere (canR (kn.map fun z => (z, z))) (finR (kn.map fun z => (z, z))) (b.drop (p + 1)) with
            | error k =>
              intro hout
              show Bad CF E (p + 1 + k)
              rw [show p + 1 + k = p + (k + 1) by omega]
              exact hout
            | ok x =>
              intro hout H2 hR2 l2 hK2
              have hKK : Kp rd H H2 := (hK1.trans (Kp.same hs)).trans hK2
              refine ⟨two, fun t ht => ?_⟩
              refine hout _ ?_ (by omega) (hKK.trans (Kp.new ht)) t 1 (.int (x.1 : Nat)) (fresh_of hR2 hKK t ht) upd_same ⟨rfl, rfl⟩
              rw [show p + (x.2 + 1) = p + 1 + x.2 by omega]
              exact hR2.same (same_new ht)
end
end Sg

/-! SgRt4 -/
set_option Elab.async false
set_option linter.all false
set_option maxRecDepth 100000
set_option maxHeartbeats 4000000
namespace Sg
open PySem PySem.Spec PyProof.Rows L2
def itF (k a l m : V) : List (Str × V) := [("kind", k), ("atom", a), ("least", l), ("most", m)]
def ruF (c s b h e : V) : List (Str × V) := [("cuts", c), ("from_beginning", s), ("before", b), ("behind", h), ("to_end", e)]
def rsF (c r : V) : List (Str × V) := [("classes", c), ("rules", r)]
theorem itF_new (k a l m : V) : putF "most" m (putF "least" l (putF "atom" a (putF "kind" k []))) = itF k a l m := by
  show putF "most" m (putF "least" l (putF "atom" a [("kind", k)])) = _
  rw [put_past (by decide +kernel)]
  show putF "most" m (putF "least" l [("kind", k), ("atom", a)]) = _
  rw [put_past (by decide +kernel), put_past (by decide +kernel)]
  show putF "most" m [("kind", k), ("atom", a), ("least", l)] = _
  rw [put_past (by decide +kernel), put_past (by decide +kernel), put_past (by decide +kernel)]
  rfl
theorem ruF_new (c s b h e : V) : putF "to_end" e (putF "behind" h (putF "before" b (putF "from_beginning" s (putF "cuts" c [])))) = ruF c s b h e := by
  show putF "to_end" e (putF "behind" h (putF "before" b (putF "from_beginning" s [("cuts", c)]))) = _
  rw [put_past (by decide +kernel)]
  show putF "to_end" e (putF "behind" h (putF "before" b [("cuts", c), ("from_beginning", s)])) = _
  rw [put_past (by decide +kernel), put_past (by decide +kernel)]
  show putF "to_end" e (putF "behind" h [("cuts", c), ("from_beginning", s), ("before", b)]) = _
  rw [put_past (by decide +kernel), put_past (by decide +kernel), put_past (by decide +kernel)]
  show putF "to_end" e [("cuts", c), ("from_beginning", s), ("before", b), ("behind", h)] = _
  rw [put_past (by decide +kernel), put_past (by decide +kernel), put_past (by decide +kernel), put_past (by decide +kernel)]
  rfl
theorem rsF_new (c r : V) : putF "rules" r (putF "classes" c []) = rsF c r := (put_past (by decide +kernel)).trans rfl
structure TxI (K : PySem.W.Frag) (CI : Addr) : Prop where
  cl : Cls K CI
  n1 : NoAttr K CI "kind"
  n2 : NoAttr K CI "atom"
  n3 : NoAttr K CI "least"
  n4 : NoAttr K CI "most"
structure TxU (K : PySem.W.Frag) (CU : Addr) : Prop where
  cl : Cls K CU
  n1 : NoAttr K CU "cuts"
  n2 : NoAttr K CU "from_beginning"
  n3 : NoAttr K CU "before"
  n4 : NoAttr K CU "behind"
  n5 : NoAttr K CU "to_end"
structure TxP (K : PySem.W.Frag) (CS : Addr) : Prop where
  cl : Cls K CS
  n1 : NoAttr K CS "classes"
  n2 : NoAttr K CS "rules"
def spItemI (CI : Addr) : Sp := fun vs H Q _ => ∃ (p dx : Addr) (k a l m : V), vs = [.ref p, k, a, l, m] ∧ H p = some (.ins CI dx []) ∧ ∀ H' : Hp, H' p = some (.ins CI dx (itF k a l m)) → (∀ b o, H b = some o → b ≠ p → H' b = some o) → Q .non H'
def spRuleI (CU : Addr) : Sp := fun vs H Q _ => ∃ (p dx : Addr) (c s b h e : V), vs = [.ref p, c, s, b, h, e] ∧ H p = some (.ins CU dx []) ∧ ∀ H' : Hp, H' p = some (.ins CU dx (ruF c s b h e)) → (∀ b o, H b = some o → b ≠ p → H' b = some o) → Q .non H'
def spSetI (CS : Addr) : Sp := fun vs H Q _ => ∃ (p dx : Addr) (c r : V), vs = [.ref p, c, r] ∧ H p = some (.ins CS dx []) ∧ ∀ H' : Hp, H' p = some (.ins CS dx (rsF c r)) → (∀ b o, H b = some o → b ≠ p → H' b = some o) → Q .non H'
/-- an Item -/
def ItAt (CI : Addr) (F : Addr → Prop) (H : Hp) (a : Addr) (i : Fh.Item) : Prop := F a ∧ ∃ (dx : Addr) (k : Int) (v : V), H a = some (.ins CI dx (itF (.int k) v (.int (i.least : Nat)) (.int (i.most : Nat)))) ∧ AtomAt F H k v i.atom
theorem ItAt.keep {CI : Addr} {F : Addr → Prop} {H H' : Hp} {a : Addr} {i : Fh.Item} (h : ItAt CI F H a i) (g : ∀ b o, F b → H b = some o → H' b = some o) : ItAt CI F H' a i := by
  obtain ⟨h1, dx, k, v, h2, h3⟩ := h
  exact ⟨h1, dx, k, v, g _ _ h1 h2, h3.keep g⟩
theorem ItAt.imp {CI : Addr} {F G : Addr → Prop} {H : Hp} {a : Addr} {i : Fh.Item} (h : ItAt CI F H a i) (g : ∀ b, F b → G b) : ItAt CI G H a i := by
  obtain ⟨h1, dx, k, v, h2, h3⟩ := h
  exact ⟨g _ h1, dx, k, v, h2, h3.imp g⟩
section
variable {P : Program} {w : World} {K : PySem.W.Frag} {mg : Str → Option Value} {base : Heap} {CF CR CI CU CS : Addr}
theorem scItemI : FnScope ["self", "kind", "atom", "least", "most"] ["self", "kind", "atom", "least", "most"] (defScope sItemI) := ⟨rfl, rfl, rfl, by decide +kernel, rfl, by decide +kernel, by decide +kernel⟩
theorem ok_itemI {f : Addr} {fd : FuncData} (F : Fun K "__init__" "Item.__init__" sItemI f fd) (T : TxI K CI) : FnOk P w K mg base CX0 2 f fd ["self", "kind", "atom", "least", "most"] (spItemI CI) := by
  refine F.ok scItemI (fun vs H Q E h => ?_) (fun cdv A outer s H vs Q E hr h => ?_)
  · obtain ⟨p, dx, k, a, l, m, rfl, _⟩ := h
    rfl
  · obtain ⟨p, dx, k, a, l, m, rfl, hp, q⟩ := h
    refine ⟨_, pss_cons (ps_fld (pv 0) (pv 1) rfl) (pss_cons (ps_fld (pv 0) (pv 2) rfl) (pss_cons (ps_fld (pv 0) (pv 3) rfl) (pss_one (ps_fld (pv 0) (pv 4) rfl)))), ?_⟩
    refine ⟨_, rfl, _, rfl, p, CI, dx, [], rfl, hp, T.cl, T.n1, (by show 0 < 1000; decide), _, rfl, _, rfl, p, CI, dx, _, rfl, upd_same, T.cl, T.n2, (by show 1 < 1000; decide), ?_⟩
    refine ⟨_, rfl, _, rfl, p, CI, dx, _, rfl, upd_same, T.cl, T.n3, (by show 2 < 1000; decide), _, rfl, _, rfl, p, CI, dx, _, rfl, upd_same, T.cl, T.n4, (by show 3 < 1000; decide), ?_⟩
    refine q _ (Eq.trans upd_same (congrArg (fun q => some (HO.ins CI dx q)) (itF_new k a l m))) fun b o e hb => ?_
    rw [upd_ne hb, upd_ne hb, upd_ne hb, upd_ne hb]
    exact e
theorem scRuleI : FnScope ["self", "cuts", "from_beginning", "before", "behind", "to_end"] ["self", "cuts", "from_beginning", "before", "behind", "to_end"] (defScope sRuleI) := ⟨rfl, rfl, rfl, by decide +kernel, rfl, by decide +kernel, by decide +kernel⟩
theorem ok_ruleI {f : Addr} {fd : FuncData} (F : Fun K "__init__" "Rule.__init__" sRuleI f fd) (T : TxU K CU) : FnOk P w K mg base CX0 2 f fd ["self", "cuts", "from_beginning", "before", "behind", "to_end"] (spRuleI CU) := by
  refine F.ok scRuleI (fun vs H Q E h => ?_) (fun cdv A outer s H vs Q E hr h => ?_)
  · obtain ⟨p, dx, c, s, b, h, e, rfl, _⟩ := h
    rfl
  · obtain ⟨p, dx, c, s', b, h, e, rfl, hp, q⟩ := h
    refine ⟨_, pss_cons (ps_fld (pv 0) (pv 1) rfl) (pss_cons (ps_fld (pv 0) (pv 2) rfl) (pss_cons (ps_fld (pv 0) (pv 3) rfl) (pss_cons (ps_fld (pv 0) (pv 4) rfl) (pss_one (ps_fld (pv 0) (pv 5) rfl))))), ?_⟩
    refine ⟨_, rfl, _, rfl, p, CU, dx, [], rfl, hp, T.cl, T.n1, (by show 0 < 1000; decide), _, rfl, _, rfl, p, CU, dx, _, rfl, upd_same, T.cl, T.n2, (by show 1 < 1000; decide), ?_⟩
    refine ⟨_, rfl, _, rfl, p, CU, dx, _, rfl, upd_same, T.cl, T.n3, (by show 2 < 1000; decide), _, rfl, _, rfl, p, CU, dx, _, rfl, upd_same, T.cl, T.n4, (by show 3 < 1000; decide), ?_⟩
    refine ⟨_, rfl, _, rfl, p, CU, dx, _, rfl, upd_same, T.cl, T.n5, (by show 4 < 1000; decide), ?_⟩
    refine q _ (Eq.trans upd_same (congrArg (fun q => some (HO.ins CU dx q)) (ruF_new c s' b h e))) fun b o e hb => ?_
    rw [upd_ne hb, upd_ne hb, upd_ne hb, upd_ne hb, upd_ne hb]
    exact e
theorem scSetI : FnScope ["self", "classes", "rules"] ["self", "classes", "rules"] (defScope sSetI) := ⟨rfl, rfl, rfl, by decide +kernel, rfl, by decide +kernel, by decide +kernel⟩
theorem ok_setI {f : Addr} {fd : FuncData} (F : Fun K "__init__" "RuleSet.__init__" sSetI f fd) (T : TxP K CS) : FnOk P w K mg base CX0 2 f fd ["self", "classes", "rules"] (spSetI CS) := by
  refine F.ok scSetI (fun vs H Q E h => ?_) (fun cdv A outer s H vs Q E hr h => ?_)
  · obtain ⟨p, dx, c, r, rfl, _⟩ := h
    rfl
  · obtain ⟨p, dx, c, r, rfl, hp, q⟩ := h
    refine ⟨_, pss_cons (ps_fld (pv 0) (pv 1) rfl) (pss_one (ps_fld (pv 0) (pv 2) rfl)), ?_⟩
    refine ⟨_, rfl, _, rfl, p, CS, dx, [], rfl, hp, T.cl, T.n1, (by show 0 < 1000; decide), _, rfl, _, rfl, p, CS, dx, _, rfl, upd_same, T.cl, T.n2, (by show 1 < 1000; decide), ?_⟩
    refine q _ (Eq.trans upd_same (congrArg (fun q => some (HO.ins CS dx q)) (rsF_new c r))) fun b o e hb => ?_
    rw [upd_ne hb, upd_ne hb]
    exact e
/-! ### read_item -/
def spItem (CF CR CI : Addr) (K : PySem.W.Frag) : Sp := fun vs H Q E => ∃ (rd ka : Addr) (b : Fh.Bytes) (p : Nat) (kn : List Nat), vs = [.ref rd, .ref ka] ∧ RdAt CR K H rd b p ∧ SqL K H ka (nvs kn) ∧ kn.length ≤ 16 ∧ (∀ s ∈ kn, s ≤ 15) ∧
  Out (itemM kn.reverse (b.drop p)) p (fun i q => Good CR K H rd b p q fun H' => ∀ a, ItAt CI (Fresh H) H' a i → Q (.ref a) H') (Bad CF E)
theorem scItem : FnScope ["reader", "known", "kind", "atom", "least", "least_most", "most"] ["reader", "known"] (defScope sItem) := ⟨rfl, rfl, rfl, by decide +kernel, rfl, by decide +kernel, by decide +kernel⟩
theorem ok_item {f : Addr} {fd : FuncData} (F : Fun K "read_item" "read_item" sItem f fd) (T : TxR K mg CR) (TN : TxN mg) (GL : MethOk P w K mg base CX0 3 CR "look" ["self"] (spLook CR K)) (GT : MethOk P w K mg base (L2N.CX P w) 4 CR "take" ["self", "wanted"] (spTake CF CR K))
    (GN : MethOk P w K mg base (L2N.CX P w) 4 CR "take_number" ["self", "ranges"] (spNumber CF CR K)) (GA : CallOk P w K mg base (L2N.CX P w) 6 "read_atom" ["reader", "known"] (spAtom CF CR K))
    (GI : NewOk P w K mg base 2 "Item" CI ["self", "kind", "atom", "least", "most"] (spItemI CI)) : FnOk P w K mg base (L2N.CX P w) 7 f fd ["reader", "known"] (spItem CF CR CI K) := by
  refine okN F scItem (fun vs H Q E h => ?_) (fun cdv A outer s H vs Q E hr h => ?_)
  · obtain ⟨rd, ka, b, p, kn, rfl, _⟩ := h
    rfl
  · obtain ⟨rd, ka, b, p, kn, rfl, hR, hkn, hk16, hk15, hout⟩ := h
    have hr2 : Room 3 (A.deeper (envOfC (Str.ofString "read_item") (defScope sItem) s.heap.objs.size f cdv)) := hr.mono (by decide)
    have hr3 : Room 4 (A.deeper (envOfC (Str.ofString "read_item") (defScope sItem) s.heap.objs.size f cdv)) := hr.mono (by decide)
    refine ⟨_, pss_cons (ps_asg (pe_c GA hr (by rfl) (passN rfl rfl rfl rfl) (by exact (pa_cons (pv 0) (pa_cons (pv 1) pa_nil)))) (pg_tup rfl (pgs_cons (pg_name (i := 2) scItem.nd rfl (Or.inl rfl)) (pgs_cons (pg_name (i := 3) scItem.nd rfl (Or.inl rfl)) pgs_nil))))
      (pss_cons (ps_if (pt_cmpR op_ne (pe_m0 GL T.cl hr2 pass0 (pv 0)) (pe_k TN.star (by rfl)) (nomark _)) (pss_one (ps_ret (pe_mk GI hr2 (by rfl) (by exact (pa_cons (pv 2) (pa_cons (pv 3) (pa_cons pe_int (pa_cons pe_int pa_nil)))))))) pss_nil)
      (pss_cons (ps_expr (pe_m GT T.cl hr3 (passN rfl rfl rfl rfl) (pv 0) (by exact (pa_cons (pe_lst (pa_cons (pe_k TN.star (by rfl)) pa_nil)) pa_nil))))
      (pss_cons (ps_set (i := 4) scItem.nd rfl (Or.inl rfl) (pe_m GN T.cl hr3 (passN rfl rfl rfl rfl) (pv 0) (by exact (pa_cons (pe_lst (pa_cons (pe_tup (pa_cons pe_int (pa_cons (pe_k TN.mostT (by rfl)) pa_nil))) pa_nil)) pa_nil))))
      (pss_cons (ps_expr (pe_m GT T.cl hr3 (passN rfl rfl rfl rfl) (pv 0) (by exact (pa_cons (pe_lst (pa_cons (pe_k TN.hyphen (by rfl)) pa_nil)) pa_nil))))
      (pss_cons (ps_set (i := 5) scItem.nd rfl (Or.inl rfl) (pe_ifExp (pt_cmpR op_eq (pv 4) pe_int (nomark _)) pe_int (pv 4)))
      (pss_cons (ps_set (i := 6) scItem.nd rfl (Or.inl rfl) (pe_m GN T.cl hr3 (passN rfl rfl rfl rfl) (pv 0) (by exact (pa_cons (pe_lst (pa_cons (pe_tup (pa_cons (pv 5) (pa_cons (pe_k TN.mostT (by rfl)) pa_nil))) pa_nil)) pa_nil))))
      (pss_one (ps_ret (pe_mk GI hr2 (by rfl) (by exact (pa_cons (pv 2) (pa_cons (pv 3) (pa_cons (pv 4) (pa_cons (pv 6) pa_nil)))))))))))))), ?_⟩
    refine ⟨_, rfl, _, rfl, rd, ka, b, p, kn, rfl, hR, hkn, hk16, hk15, ?_⟩
    unfold itemM at hout
    cases hx : Fh.atomHere kn.reverse (b.drop p) with
    | error k =>
      rw [hx] at hout
      exact hout
    | ok x =>
      obtain ⟨at_, n⟩ := x
      replace hout : Out (match timesM (b.drop (p + n)) with | .error k => .error (n + k) | .ok y => .ok ((⟨at_, y.1, y.2.1⟩ : Fh.Item), n + y.2.2)) p (fun i q => Good CR K H rd b p q fun H' => ∀ a, ItAt CI (Fresh H) H' a i → Q (.ref a) H') (Bad CF E) := by
        rw [hx] at hout
        rw [← drop_more]
        exact hout
      intro H1 hR1 l1 hK1 t k v ht hT hA
      replace hR1 : RdAt CR K H1 rd b (p + n) := hR1
      replace l1 : p < p + n := l1
      replace hA : AtomAt (Fresh H) H1 k v at_ := hA
      refine ⟨t, _, rfl, .inl (.inl hT), rfl, _, _, rfl, _, _, rfl, rfl, ?_⟩
      -- an Item made of it
      have make : ∀ (lo hi m q : Nat) (H2 : Hp), RdAt CR K H2 rd b q → Kp rd H1 H2 → (∀ H' a, RdAt CR K H' rd b q → Kp rd H H' → ItAt CI (Fresh H) H' a ⟨at_, lo, hi⟩ → Q (.ref a) H') →
          ∀ x dx : Addr, H2 x = none → H2 dx = none → dx ≠ x → spItemI CI ([.ref x, .int k, v, .int (lo : Nat), .int (hi : Nat)]) (upd (upd H2 dx (.own x)) x (.ins CI dx [])) (fun v H2 => v = .non ∧ Q (.ref x) H2) E0 := by
        intro lo hi m q H2 hR2 hK2 hQ x dx nx nd ne
        refine ⟨x, dx, _, _, _, _, rfl, upd_same, fun H3 h3 k3 => ⟨rfl, ?_⟩⟩
        have sm : Same H2 H3 := Same.made nx nd k3
        have hK : Kp rd H H2 := hK1.trans hK2
        refine hQ H3 x (hR2.same sm) (hK.trans (Kp.same sm)) ⟨fresh_of hR2 hK x nx, dx, k, v, h3, ?_⟩
        exact hA.keep fun c o fc e => sm c o (hR.fresh hK2 c o fc e)
      refine t_lookN (n := 42) rfl hR1 (fun e42 => iteF ?_) (fun e42 => iteT ?_)
      · unfold timesM at hout
        rw [if_neg (fun z => z e42), drop_more] at hout
        refine m_take1 (n := 42) (E := E) (by omega) rfl hR1 (fun _ H2 hR2 l2 hK2 => ?_) (fun e1 => absurd e42 e1)
        refine m_number (lo := 0) (hi := 32) (E := E) rfl hR2 (by decide) (fun Q' q => q) (fun Q' q => q) ?_
        cases hy : num 0 32 (b.drop (p + n + 1)) with
        | error k =>
          rw [hy] at hout
          show Bad CF E (p + n + 1 + k)
          rw [show p + n + 1 + k = p + (n + (1 + k)) by omega]
          exact hout
        | ok y =>
          rw [hy] at hout
          intro H3 hR3 l3 hK3
          simp only [drop_more] at hout
          have ea : p + n + 1 + y.2 = p + n + (1 + y.2) := by omega
          refine m_take1 (n := 45) (E := E) (by omega) rfl hR3 (fun e2 H4 hR4 l4 hK4 => ?_) (fun e2 => ?_)
          · rw [ea] at e2
            rw [if_neg (fun z => z e2)] at hout
            have eb : p + n + 1 + y.2 + 1 = p + n + (2 + y.2) := by omega
            rw [eb] at hR4
            have hK14 : Kp rd H1 H4 := (hK2.trans hK3).trans hK4
            have rest : ∀ z : Nat, z = (if y.1 = 1 then 2 else y.1) → tSeq (tAsg (tMeth CR "take_number" (spNumber CF CR K) [] E (tVar 0) (tCons (tLst (tCons (tTup (tCons (tVar 5) (tCons (tC (.int 32)) tNil))) tNil)) tNil)) (gName 6))
                (tRet (tMake CI (spItemI CI) [] E0 (tCons (tVar 2) (tCons (tVar 3) (tCons (tVar 4) (tCons (tVar 6) tNil)))))) { nx := fun _ H' => Q .non H', rt := Q } [some (.ref rd), some (.ref ka), some (.int k), some v, some (.int (y.1 : Nat)), some (.int (z : Nat)), none] H4 := by
              intro z hz
              refine m_number (lo := z) (hi := 32) (E := E) rfl hR4 (by decide) (fun Q' q => ⟨_, rfl, q⟩) (fun Q' q => q) ?_
              rw [← hz] at hout
              cases hw : num z 32 (b.drop (p + n + (2 + y.2))) with
              | error k =>
                rw [hw] at hout
                show Bad CF E (p + n + (2 + y.2) + k)
                rw [show p + n + (2 + y.2) + k = p + (n + (2 + y.2 + k)) by omega]
                exact hout
              | ok u =>
                rw [hw] at hout
                intro H5 hR5 l5 hK5
                refine ⟨_, rfl, _, rfl, _, rfl, _, rfl, make y.1 u.1 0 _ H5 hR5 (hK14.trans hK5) fun H' a hR' hK' hI => ?_⟩
                refine hout H' ?_ (by omega) hK' a hI
                rw [show p + (n + (2 + y.2 + u.2)) = p + n + (2 + y.2) + u.2 by omega]
                exact hR'
            refine ⟨_, rfl, rfl, _, rfl, ?_⟩
            rw [decI2]
            refine tst (fun q => ?_) (fun q => ?_)
            · exact rest 2 (by rw [if_pos (by omega)])
            · exact ⟨_, rfl, rest y.1 (by rw [if_neg (by omega)])⟩
          · rw [ea] at e2
            rw [if_pos e2] at hout
            show Bad CF E (p + n + 1 + y.2)
            rw [show p + n + 1 + y.2 = p + (n + (1 + y.2)) by omega]
            exact hout
      · unfold timesM at hout
        rw [if_pos e42] at hout
        exact ⟨_, rfl, _, rfl, make 1 1 0 _ H1 hR1 (Kp.refl _ _) fun H' a hR' hK' hI => hout H' hR' l1 hK' a hI⟩
end
end Sg

/-! SgMath5 -/
set_option Elab.async false
set_option linter.all false
set_option maxRecDepth 100000
set_option maxHeartbeats 2000000
namespace Sg
open Fh
section
variable {ks : List Nat} {cut : Bool} {g n : Nat} {h : Half} {b : Bytes}
theorem rule_end (h10 : lk b = 10) (hbar : h.bar = true) : ruleFrom ks cut (g + 1) n h b = .ok (h.rule cut, n + 1) := by
  rw [ruleFrom_step, if_pos ⟨h10, hbar⟩]
theorem rule_stop (h10 : ¬ (lk b = 10 ∧ h.bar = true)) (h32 : lk b ≠ 32 ∨ h.halt_ = true) : ruleFrom ks cut (g + 1) n h b = .error n := by
  rw [ruleFrom_step, if_neg h10, if_pos h32]
theorem rule_caret (h32 : lk b = 32) (hh : h.halt_ = false) (h94 : lk (b.drop 1) = 94) (h1 : h.start = false) (h2 : h.before = []) (h3 : h.bar = false) : ruleFrom ks cut (g + 1) n h b = ruleFrom ks cut g (n + 2) { h with start := true } (b.drop 2) := by
  rw [ruleFrom_step, if_neg (by rintro ⟨q, _⟩; omega), if_neg (by rintro (q | q); exact q h32; rw [hh] at q; cases q), if_pos ⟨h94, h1, h2, h3⟩]
theorem rule_bar (h32 : lk b = 32) (hh : h.halt_ = false) (h124 : lk (b.drop 1) = 124) (h3 : h.bar = false) : ruleFrom ks cut (g + 1) n h b = ruleFrom ks cut g (n + 2) { h with bar := true } (b.drop 2) := by
  rw [ruleFrom_step, if_neg (by rintro ⟨q, _⟩; omega), if_neg (by rintro (q | q); exact q h32; rw [hh] at q; cases q), if_neg (by rintro ⟨q, _⟩; omega), if_pos ⟨h124, h3⟩]
theorem rule_dollar (h32 : lk b = 32) (hh : h.halt_ = false) (h36 : lk (b.drop 1) = 36) (h3 : h.bar = true) : ruleFrom ks cut (g + 1) n h b = ruleFrom ks cut g (n + 2) { h with halt_ := true } (b.drop 2) := by
  rw [ruleFrom_step, if_neg (by rintro ⟨q, _⟩; omega), if_neg (by rintro (q | q); exact q h32; rw [hh] at q; cases q), if_neg (by rintro ⟨q, _⟩; omega), if_neg (by rintro ⟨q, _⟩; omega), if_pos ⟨h36, h3⟩]
theorem rule_item (h32 : lk b = 32) (hh : h.halt_ = false) (c1 : ¬ (lk (b.drop 1) = 94 ∧ h.start = false ∧ h.before = [] ∧ h.bar = false)) (c2 : ¬ (lk (b.drop 1) = 124 ∧ h.bar = false)) (c3 : ¬ (lk (b.drop 1) = 36 ∧ h.bar = true)) :
    ruleFrom ks cut (g + 1) n h b = ruleItem ks cut g n h b := by
  rw [ruleFrom_step, if_neg (by rintro ⟨q, _⟩; omega), if_neg (by rintro (q | q); exact q h32; rw [hh] at q; cases q), if_neg c1, if_neg c2, if_neg c3]
end
end Sg

/-! SgRt5 -/
set_option Elab.async false
set_option linter.all false
set_option maxRecDepth 100000
set_option maxHeartbeats 4000000
namespace Sg
open PySem PySem.Spec PyProof.Rows L2
theorem fresh_new {H : Hp} {L x : Addr} {o : HO} (h : Fresh (upd H L o) x) : x ≠ L ∧ Fresh H x := by
  have z : upd H L o x = none := h
  by_cases q : x = L
  · rw [q, upd_same] at z
    cases z
  · rw [upd_ne q] at z
    exact ⟨q, z⟩
/-- a list of Items -/
def ItsAt (CI : Addr) (F : Addr → Prop) (H : Hp) (a : Addr) (l : List Fh.Item) : Prop := F a ∧ ∃ xs : List Addr, H a = some (.lst (xs.map V.ref)) ∧ Paired (fun x i => ItAt CI F H x i) xs l
theorem its_keep {CI : Addr} {F : Addr → Prop} {H H' : Hp} {xs : List Addr} {l : List Fh.Item} (h : Paired (fun x i => ItAt CI F H x i) xs l) (g : ∀ b o, F b → H b = some o → H' b = some o) : Paired (fun x i => ItAt CI F H' x i) xs l := h.mono fun _ _ z => z.keep g
theorem its_imp {CI : Addr} {F G : Addr → Prop} {H : Hp} {xs : List Addr} {l : List Fh.Item} (h : Paired (fun x i => ItAt CI F H x i) xs l) (g : ∀ b, F b → G b) : Paired (fun x i => ItAt CI G H x i) xs l := h.mono fun _ _ z => z.imp g
theorem ItsAt.keep {CI : Addr} {F : Addr → Prop} {H H' : Hp} {a : Addr} {l : List Fh.Item} (h : ItsAt CI F H a l) (g : ∀ b o, F b → H b = some o → H' b = some o) : ItsAt CI F H' a l := by
  obtain ⟨h1, xs, h2, h3⟩ := h
  exact ⟨h1, xs, g _ _ h1 h2, its_keep h3 g⟩
theorem ItsAt.imp {CI : Addr} {F G : Addr → Prop} {H : Hp} {a : Addr} {l : List Fh.Item} (h : ItsAt CI F H a l) (g : ∀ b, F b → G b) : ItsAt CI G H a l := by
  obtain ⟨h1, xs, h2, h3⟩ := h
  exact ⟨g _ h1, xs, h2, its_imp h3 g⟩
section
variable {P : Program} {w : World} {K : PySem.W.Frag} {mg : Str → Option Value} {base : Heap} {CF CR CI CU CS : Addr}
/-- what the two halves of a rule share -/
def HalfAt (CR : Addr) (K : PySem.W.Frag) (H : Hp) (rd ka : Addr) (b : Fh.Bytes) (p : Nat) (kn : List Nat) : Prop := RdAt CR K H rd b p ∧ SqL K H ka (nvs kn) ∧ kn.length ≤ 16 ∧ ∀ s ∈ kn, s ≤ 15
def spBefore (CF CR CI : Addr) (K : PySem.W.Frag) : Sp := fun vs H Q E => ∃ (rd ka : Addr) (b : Fh.Bytes) (q g : Nat) (kn : List Nat) (h : Fh.Half) (cut : Bool), vs = [.ref rd, .ref ka] ∧ HalfAt CR K H rd ka b (q + 1) kn ∧ lk (b.drop q) = 32 ∧
  h.bar = false ∧ h.halt_ = false ∧ h.before = [] ∧ (h.start = true ∨ lk (b.drop (q + 1)) ≠ 94) ∧ (b.drop q).length < g ∧
  (∀ (H' : Hp) (q' g' : Nat) (l : List Fh.Item) (a : Addr), RdAt CR K H' rd b q' → q + 1 < q' → Kp rd H H' → (b.drop q').length < g' → Fh.ruleFrom kn.reverse cut g' q' { h with before := l.reverse, bar := true } (b.drop q') = Fh.ruleFrom kn.reverse cut g q h (b.drop q) → ItsAt CI (Fresh H) H' a l → Q (.ref a) H') ∧
  ∀ k, Fh.ruleFrom kn.reverse cut g q h (b.drop q) = .error k → Bad CF E k
theorem scBefore : FnScope ["reader", "known", "items"] ["reader", "known"] (defScope sBefore) := ⟨rfl, rfl, rfl, by decide +kernel, rfl, by decide +kernel, by decide +kernel⟩
theorem ok_before {f : Addr} {fd : FuncData} (F : Fun K "read_before" "read_before" sBefore f fd) (T : TxR K mg CR) (TN : TxN mg) (GL : MethOk P w K mg base CX0 3 CR "look" ["self"] (spLook CR K)) (GT : MethOk P w K mg base (L2N.CX P w) 4 CR "take" ["self", "wanted"] (spTake CF CR K))
    (GI : CallOk P w K mg base (L2N.CX P w) 7 "read_item" ["reader", "known"] (spItem CF CR CI K)) : FnOk P w K mg base (L2N.CX P w) 8 f fd ["reader", "known"] (spBefore CF CR CI K) := by
  refine okN F scBefore (fun vs H Q E h => ?_) (fun cdv A outer s H vs Q E hr h => ?_)
  · obtain ⟨rd, ka, b, q, g, kn, h, cut, rfl, _⟩ := h
    rfl
  · obtain ⟨rd, ka, b, q, g, kn, h, cut, rfl, ⟨hR, hkn, hk16, hk15⟩, h32, hbar, hhalt, hbef, hst, hg, good, bad⟩ := h
    have hr2 : Room 3 (A.deeper (envOfC (Str.ofString "read_before") (defScope sBefore) s.heap.objs.size f cdv)) := hr.mono (by decide)
    have hr3 : Room 4 (A.deeper (envOfC (Str.ofString "read_before") (defScope sBefore) s.heap.objs.size f cdv)) := hr.mono (by decide)
    refine ⟨_, pss_cons (ps_set (i := 2) scBefore.nd rfl (Or.inl rfl) (pe_lst pa_nil))
      (pss_cons (ps_while (passes_of rfl) (pt_cmpR op_ne (pe_m0 GL T.cl hr2 pass0 (pv 0)) (pe_k TN.bar (by rfl)) (nomark _))
        (pss_cons (ps_expr (pe_bm PySem.F.plainAttrs_list PySem.F.slot_list_append PySem.F.type_list_append mt_append (pv 2) (pa_cons (pe_c GI hr (by rfl) (passN rfl rfl rfl rfl) (by exact (pa_cons (pv 0) (pa_cons (pv 1) pa_nil)))) pa_nil)))
        (pss_one (ps_expr (pe_m GT T.cl hr3 (passN rfl rfl rfl rfl) (pv 0) (by exact (pa_cons (pe_lst (pa_cons (pe_k TN.blank (by rfl)) pa_nil)) pa_nil)))))))
      (pss_cons (ps_expr (pe_m GT T.cl hr3 (passN rfl rfl rfl rfl) (pv 0) (by exact (pa_cons (pe_lst (pa_cons (pe_k TN.bar (by rfl)) pa_nil)) pa_nil))))
      (pss_one (ps_ret (pv 2))))), ?_⟩
    refine ⟨(by show 0 ≤ sizeLine; decide), fun L hL => ?_⟩
    have hR1 : RdAt CR K (upd H L (.lst [])) rd b (q + 1) := hR.same (same_new hL)
    refine ⟨fun m σ H' => ∃ (n g' : Nat) (l : List Fh.Item) (xs : List Addr), σ = [some (.ref rd), some (.ref ka), some (.ref L)] ∧ RdAt CR K H' rd b (n + 1) ∧ q ≤ n ∧ Kp rd H H' ∧ H' L = some (.lst (xs.map V.ref)) ∧ Paired (fun x i => ItAt CI (Fresh (upd H L (.lst []))) H' x i) xs l ∧ lk (b.drop n) = 32 ∧
        (h.start = true ∨ lk (b.drop (n + 1)) ≠ 94 ∨ l ≠ []) ∧ (b.drop n).length < g' ∧ Fh.ruleFrom kn.reverse cut g' n { h with before := l.reverse } (b.drop n) = Fh.ruleFrom kn.reverse cut g q h (b.drop q) ∧ l.length ≤ n ∧ m = b.length - n,
      ⟨_, q, g, [], [], rfl, hR1, Nat.le_refl _, Kp.new hL, upd_same, .nil, h32, ?_, hg, ?_, Nat.zero_le _, rfl⟩, ?_⟩
    · rcases hst with z | z
      · exact .inl z
      · exact .inr (.inl z)
    · rw [List.reverse_nil, ← hbef]
    rintro m σ H' ⟨n, g', l, xs, rfl, hR', hqn, hK', hHL, hP, hn32, hst', hg', heq, hlen, rfl⟩
    obtain ⟨g', rfl⟩ : ∃ g'', g' = g'' + 1 := ⟨g' - 1, by omega⟩
    refine t_lookN (n := 124) rfl hR' (fun e124 => iteF ?_) (fun e124 => iteT ?_)
    · rw [rule_bar (h := { h with before := l.reverse }) hn32 hhalt (by rw [drop_more]; exact e124) hbar, drop_more] at heq
      refine m_take1 (n := 124) (E := E) (by omega) rfl hR' (fun _ H2 hR2 l2 hK2 => ?_) (fun e1 => absurd e124 e1)
      refine ⟨_, rfl, good H2 (n + 2) g' l L hR2 (by omega) (hK'.trans hK2) ?_ heq ⟨hL, xs, hR.fresh hK2 _ _ hL hHL, ?_⟩⟩
      · rw [len_drop] at hg' ⊢
        have := hR2.2.1
        omega
      · exact its_imp (its_keep hP fun c o hf e => hR.fresh hK2 c o (fresh_new hf).2 e) fun c hf => (fresh_new hf).2
    · have hitem : Fh.ruleFrom kn.reverse cut (g' + 1) n { h with before := l.reverse } (b.drop n) = ruleItem kn.reverse cut g' n { h with before := l.reverse } (b.drop n) := by
        refine rule_item hn32 hhalt ?_ (by rw [drop_more]; rintro ⟨z, _⟩; exact e124 z) (by rintro ⟨_, z⟩; rw [show h.bar = true from z] at hbar; cases hbar)
        rintro ⟨z1, z2, z3, z4⟩
        rw [drop_more] at z1
        rcases hst' with z | z | z
        · rw [show h.start = false from z2] at z; cases z
        · exact z z1
        · exact z (List.reverse_eq_nil_iff.mp z3)
      rw [hitem] at heq
      unfold ruleItem at heq
      rw [drop_more] at heq
      refine ⟨fun σ' H2 => ∃ (z : Fh.Item × Nat) (xs' : List Addr), itemM kn.reverse (b.drop (n + 1)) = .ok z ∧ σ' = [some (.ref rd), some (.ref ka), some (.ref L)] ∧ RdAt CR K H2 rd b (n + 1 + z.2 + 1) ∧ 0 < z.2 ∧ Kp rd H H2 ∧ H2 L = some (.lst (xs'.map V.ref)) ∧ Paired (fun x i => ItAt CI (Fresh (upd H L (.lst []))) H2 x i) xs' (l ++ [z.1]) ∧ lk (b.drop (n + 1 + z.2)) = 32, ?_, ?_⟩
      · rintro σ' H2 ⟨z, xs', hz, e1, e2, e3, e4, e5, e6, e7⟩
        rw [hz] at heq
        refine ⟨_, ?_, n + 1 + z.2, g', l ++ [z.1], xs', e1, e2, by omega, e4, e5, e6, e7, .inr (.inr (by simp)), ?_, ?_, ?_, rfl⟩
        · have := e2.2.1
          omega
        · rw [len_drop] at hg' ⊢
          have := e2.2.1
          omega
        · rw [← heq]
          show _ = Fh.ruleFrom kn.reverse cut g' (n + 1 + z.2) (Fh.Half.with_ { h with before := l.reverse } z.1) ((b.drop n).drop (1 + z.2))
          unfold Fh.Half.with_
          rw [if_neg (by rw [show ({ h with before := l.reverse } : Fh.Half).bar = h.bar from rfl, hbar]; simp), drop_more, List.reverse_append, show n + (1 + z.2) = n + 1 + z.2 by omega]
          rfl
        · rw [List.length_append]
          show l.length + 1 ≤ _
          omega
      · refine ⟨_, rfl, .inl ⟨rfl, _, SqL.of hHL⟩, _, rfl, _, rfl, rd, ka, b, n + 1, kn, rfl, hR', ?_, hk16, hk15, ?_⟩
        · obtain ⟨dx0, fs0, hi0⟩ := hR.ins
          exact sq_kp hi0 hK' hkn
        · cases hz : itemM kn.reverse (b.drop (n + 1)) with
          | error k =>
            rw [hz] at heq
            exact bad _ heq.symm
          | ok z =>
            rw [hz] at heq
            intro H2 hR2 l2 hK2 a hI
            have hL2 := hR.fresh hK2 _ _ hL hHL
            have hb : 0 < b.length := by have := hR2.2.1; omega
            have frx : ∀ x, Fresh H' x → Fresh (upd H L (.lst [])) x := fun x hx => by
              have h1 := fresh_of hR' hK' x hx
              show upd H L (.lst []) x = none
              rw [upd_ne (fun z => by rw [z] at hx; rw [show H' L = none from hx] at hHL; cases hHL)]
              exact h1
            refine ⟨L, _, _, rfl, rfl, hL2, ?_, ?_⟩
            · rw [List.length_map, hP.length]
              have h1 := hR'.2.1
              have h2 := hR'.2.2
              have : (262146 : Nat) < sizeLine := by decide
              omega
            · have ev : xs.map V.ref ++ [V.ref a] = (xs ++ [a]).map V.ref := by rw [List.map_append]; rfl
              rw [ev]
              have hR3 : RdAt CR K (upd H2 L (.lst ((xs ++ [a]).map V.ref))) rd b (n + 1 + z.2) := hR2.updL hL2 (bv_refs hb)
              have kpL : ∀ c o, Fresh (upd H L (.lst [])) c → H2 c = some o → upd H2 L (.lst ((xs ++ [a]).map V.ref)) c = some o := fun c o hf e => by
                rw [upd_ne (fresh_new hf).1]
                exact e
              have hK3 : Kp rd H (upd H2 L (.lst ((xs ++ [a]).map V.ref))) := fun c o e nn => by
                have hcL : c ≠ L := fun z => by
                  rw [z, hL] at e
                  cases e
                rw [upd_ne hcL]
                exact hK2 c o (hK' c o e nn) nn
              have hP3 : Paired (fun x i => ItAt CI (Fresh (upd H L (.lst []))) (upd H2 L (.lst ((xs ++ [a]).map V.ref))) x i) (xs ++ [a]) (l ++ [z.1]) :=
                paired_snoc (its_keep (its_keep hP fun c o hf e => hR.fresh hK2 c o (fresh_new hf).2 e) kpL) ((hI.imp frx).keep kpL)
              refine m_take1 (n := 32) (E := E) (by omega) rfl hR3 (fun e32 H4 hR4 l4 hK4 => ?_) (fun e32 => ?_)
              · exact ⟨z, xs ++ [a], rfl, rfl, hR4, by omega, hK3.trans hK4, hR.fresh hK4 _ _ hL upd_same, its_keep hP3 fun c o hf e => hR.fresh hK4 c o (fresh_new hf).2 e, e32⟩
              · refine bad (n + 1 + z.2) ?_
                rw [← heq]
                obtain ⟨g2, rfl⟩ : ∃ g2, g' = g2 + 1 := ⟨g' - 1, by rw [len_drop] at hg'; have := hR2.2.1; omega⟩
                show Fh.ruleFrom kn.reverse cut (g2 + 1) (n + 1 + z.2) (Fh.Half.with_ { h with before := l.reverse } z.1) ((b.drop n).drop (1 + z.2)) = _
                have ew : Fh.Half.with_ { h with before := l.reverse } z.1 = { h with before := z.1 :: l.reverse } := by
                  unfold Fh.Half.with_
                  rw [if_neg (by rw [show ({ h with before := l.reverse } : Fh.Half).bar = h.bar from rfl, hbar]; simp)]
                rw [ew, drop_more, show n + (1 + z.2) = n + 1 + z.2 by omega]
                exact rule_stop (fun y => by rw [show h.bar = true from y.2] at hbar; cases hbar) (.inl e32)
end
end Sg

/-! SgRt6 -/
set_option Elab.async false
set_option linter.all false
set_option maxRecDepth 100000
set_option maxHeartbeats 4000000
namespace Sg
open PySem PySem.Spec PyProof.Rows L2
section
variable {P : Program} {w : World} {K : PySem.W.Frag} {mg : Str → Option Value} {base : Heap} {CF CR CI CU CS : Addr}
def spBehind (CF CR CI : Addr) (K : PySem.W.Frag) : Sp := fun vs H Q E => ∃ (rd ka : Addr) (b : Fh.Bytes) (q g : Nat) (kn : List Nat) (h : Fh.Half) (cut : Bool), vs = [.ref rd, .ref ka] ∧ HalfAt CR K H rd ka b q kn ∧
  h.bar = true ∧ h.halt_ = false ∧ h.behind = [] ∧ (b.drop q).length < g ∧ 0 < q ∧
  OutA (Fh.ruleFrom kn.reverse cut g q h (b.drop q)) (fun r q' => Good CR K H rd b q q' fun H' => ∀ (t la : Addr) (e : Bool) (l : List Fh.Item), Fresh H t → H' t = some (.tup [.ref la, .bl e]) → ItsAt CI (Fresh H) H' la l → r = ⟨cut, h.start, h.before.reverse, l, e⟩ → Q (.ref t) H') (Bad CF E)
theorem scBehind : FnScope ["reader", "known", "items", "to_end"] ["reader", "known"] (defScope sBehind) := ⟨rfl, rfl, rfl, by decide +kernel, rfl, by decide +kernel, by decide +kernel⟩
theorem ok_behind {f : Addr} {fd : FuncData} (F : Fun K "read_behind" "read_behind" sBehind f fd) (T : TxR K mg CR) (TN : TxN mg) (GL : MethOk P w K mg base CX0 3 CR "look" ["self"] (spLook CR K)) (GT : MethOk P w K mg base (L2N.CX P w) 4 CR "take" ["self", "wanted"] (spTake CF CR K))
    (GI : CallOk P w K mg base (L2N.CX P w) 7 "read_item" ["reader", "known"] (spItem CF CR CI K)) : FnOk P w K mg base (L2N.CX P w) 8 f fd ["reader", "known"] (spBehind CF CR CI K) := by
  refine okN F scBehind (fun vs H Q E h => ?_) (fun cdv A outer s H vs Q E hr h => ?_)
  · obtain ⟨rd, ka, b, q, g, kn, h, cut, rfl, _⟩ := h
    rfl
  · obtain ⟨rd, ka, b, q, g, kn, h, cut, rfl, ⟨hR, hkn, hk16, hk15⟩, hbar, hhalt, hbeh, hg, hq0, hout⟩ := h
    have hr2 : Room 3 (A.deeper (envOfC (Str.ofString "read_behind") (defScope sBehind) s.heap.objs.size f cdv)) := hr.mono (by decide)
    have hr3 : Room 4 (A.deeper (envOfC (Str.ofString "read_behind") (defScope sBehind) s.heap.objs.size f cdv)) := hr.mono (by decide)
    refine ⟨_, pss_cons (ps_set (i := 2) scBehind.nd rfl (Or.inl rfl) (pe_lst pa_nil))
      (pss_cons (ps_set (i := 3) scBehind.nd rfl (Or.inl rfl) pe_bl)
      (pss_cons (ps_while (passes_of rfl) (PW.pt (pw_and (pt_cmpR op_eq (pe_m0 GL T.cl hr2 pass0 (pv 0)) (pe_k TN.blank (by rfl)) (nomark _)) (pw_and1 (pt_not (pt_val (pv 3))))))
        (pss_cons (ps_expr (pe_m GT T.cl hr3 (passN rfl rfl rfl rfl) (pv 0) (by exact (pa_cons (pe_lst (pa_cons (pe_k TN.blank (by rfl)) pa_nil)) pa_nil))))
        (pss_one (ps_if (pt_cmpR op_eq (pe_m0 GL T.cl hr2 pass0 (pv 0)) (pe_k TN.dollar (by rfl)) (nomark _))
          (pss_cons (ps_expr (pe_m GT T.cl hr3 (passN rfl rfl rfl rfl) (pv 0) (by exact (pa_cons (pe_lst (pa_cons (pe_k TN.dollar (by rfl)) pa_nil)) pa_nil))))
          (pss_one (ps_set (i := 3) scBehind.nd rfl (Or.inl rfl) pe_bl)))
          (pss_one (ps_expr (pe_bm PySem.F.plainAttrs_list PySem.F.slot_list_append PySem.F.type_list_append mt_append (pv 2) (pa_cons (pe_c GI hr (by rfl) (passN rfl rfl rfl rfl) (by exact (pa_cons (pv 0) (pa_cons (pv 1) pa_nil)))) pa_nil))))))))
      (pss_cons (ps_expr (pe_m GT T.cl hr3 (passN rfl rfl rfl rfl) (pv 0) (by exact (pa_cons (pe_lst (pa_cons (pe_k TN.lf (by rfl)) pa_nil)) pa_nil))))
      (pss_one (ps_ret (pe_tup (pa_cons (pv 2) (pa_cons (pv 3) pa_nil)))))))), ?_⟩
    refine ⟨(by show 0 ≤ sizeLine; decide), fun L hL => ?_⟩
    have hR1 : RdAt CR K (upd H L (.lst [])) rd b q := hR.same (same_new hL)
    refine ⟨fun m σ H' => ∃ (n g' : Nat) (l : List Fh.Item) (e : Bool) (xs : List Addr), σ = [some (.ref rd), some (.ref ka), some (.ref L), some (.bl e)] ∧ RdAt CR K H' rd b n ∧ q ≤ n ∧ Kp rd H H' ∧ H' L = some (.lst (xs.map V.ref)) ∧ Paired (fun x i => ItAt CI (Fresh (upd H L (.lst []))) H' x i) xs l ∧
        (b.drop n).length < g' ∧ Fh.ruleFrom kn.reverse cut g' n { h with behind := l.reverse, halt_ := e } (b.drop n) = Fh.ruleFrom kn.reverse cut g q h (b.drop q) ∧ l.length ≤ n ∧ m = b.length - n,
      ⟨_, q, g, [], false, [], rfl, hR1, Nat.le_refl _, Kp.new hL, upd_same, .nil, hg, ?_, Nat.zero_le _, rfl⟩, ?_⟩
    · rw [List.reverse_nil, ← hbeh, ← hhalt]
    rintro m σ H' ⟨n, g', l, e, xs, rfl, hR', hqn, hK', hHL, hP, hg', heq, hlen, rfl⟩
    obtain ⟨g', rfl⟩ : ∃ g'', g' = g'' + 1 := ⟨g' - 1, by omega⟩
    have fin : (¬ lk (b.drop n) = 32 ∨ e = true) → tSeq (tDrop (tMeth CR "take" (spTake CF CR K) [] E (tVar 0) (tCons (tLst (tCons (tC (.int 10)) tNil)) tNil))) (tRet (tTup (tCons (tVar 2) (tCons (tVar 3) tNil)))) { nx := fun _ H' => Q .non H', rt := Q } [some (.ref rd), some (.ref ka), some (.ref L), some (.bl e)] H' := by
      intro hz
      rw [← heq] at hout
      refine m_take1 (n := 10) (E := E) (by omega) rfl hR' (fun e10 H2 hR2 l2 hK2 => ?_) (fun e10 => ?_)
      · rw [rule_end (h := { h with behind := l.reverse, halt_ := e }) e10 hbar] at hout
        have hKK : Kp rd H H2 := hK'.trans hK2
        refine ⟨_, rfl, _, rfl, (by show 2 ≤ sizeLine; decide), fun t ht => ?_⟩
        refine hout _ (hR2.same (same_new ht)) (by omega) (hKK.trans (Kp.new ht)) t L e l (fresh_of hR2 hKK t ht) upd_same ⟨hL, xs, ?_, ?_⟩ ?_
        · exact same_new ht _ _ (hR.fresh hK2 _ _ hL hHL)
        · exact its_imp (its_keep (its_keep hP fun c o hf z => hR.fresh hK2 c o (fresh_new hf).2 z) fun c o _ z => same_new ht c o z) fun c hf => (fresh_new hf).2
        · unfold Fh.Half.rule
          rw [List.reverse_reverse]
      · rw [rule_stop (h := { h with behind := l.reverse, halt_ := e }) (fun z => e10 z.1) hz] at hout
        exact hout
    refine t_look (n := 32) rfl hR' (fun e32 => iteT ?_) (fun e32 => iteF (iteF (fin (.inl e32))))
    refine ⟨_, rfl, e, rfl, ?_⟩
    cases e with
    | true => exact iteF (fin (.inr rfl))
    | false =>
      refine iteT ?_
      have frx : ∀ {H3 : Hp} {n3 : Nat}, RdAt CR K H3 rd b n3 → Kp rd H H3 → H3 L = some (.lst (xs.map V.ref)) → ∀ x, Fresh H3 x → Fresh (upd H L (.lst [])) x := fun {H3 n3} hr3 hk3 hl3 x hx => by
        have h1 := fresh_of hr3 hk3 x hx
        show upd H L (.lst []) x = none
        rw [upd_ne (fun z => by rw [z] at hx; rw [show H3 L = none from hx] at hl3; cases hl3)]
        exact h1
      refine ⟨fun σ' H2 => ∃ (n2 : Nat) (l2 : List Fh.Item) (e2 : Bool) (xs2 : List Addr), σ' = [some (.ref rd), some (.ref ka), some (.ref L), some (.bl e2)] ∧ RdAt CR K H2 rd b n2 ∧ n < n2 ∧ Kp rd H H2 ∧ H2 L = some (.lst (xs2.map V.ref)) ∧ Paired (fun x i => ItAt CI (Fresh (upd H L (.lst []))) H2 x i) xs2 l2 ∧
          Fh.ruleFrom kn.reverse cut g' n2 { h with behind := l2.reverse, halt_ := e2 } (b.drop n2) = Fh.ruleFrom kn.reverse cut g q h (b.drop q) ∧ l2.length ≤ n2, ?_, ?_⟩
      · rintro σ' H2 ⟨n2, l2, e2, xs2, h1, h2, h3, h4, h5, h6, h7, h8⟩
        refine ⟨_, ?_, n2, g', l2, e2, xs2, h1, h2, by omega, h4, h5, h6, ?_, h7, h8, rfl⟩
        · have := h2.2.1
          omega
        · rw [len_drop] at hg' ⊢
          have := h2.2.1
          omega
      · refine m_take1 (n := 32) (E := E) (by omega) rfl hR' (fun _ H2 hR2 l2 hK2 => ?_) (fun z => absurd e32 z)
        have hK12 : Kp rd H H2 := hK'.trans hK2
        have hL2 := hR.fresh hK2 _ _ hL hHL
        have hP2 := its_keep hP fun c o hf z => hR.fresh hK2 c o (fresh_new hf).2 z
        refine t_look (n := 36) rfl hR2 (fun e36 => iteT ?_) (fun e36 => iteF ?_)
        · rw [rule_dollar (h := { h with behind := l.reverse, halt_ := false }) e32 rfl (by rw [drop_more]; exact e36) hbar, drop_more] at heq
          refine m_take1 (n := 36) (E := E) (by omega) rfl hR2 (fun _ H3 hR3 l3 hK3 => ?_) (fun z => absurd e36 z)
          exact ⟨n + 2, l, true, xs, rfl, hR3, by omega, hK12.trans hK3, hR.fresh hK3 _ _ hL hL2, its_keep hP2 fun c o hf z => hR.fresh hK3 c o (fresh_new hf).2 z, heq, by omega⟩
        · rw [rule_item (h := { h with behind := l.reverse, halt_ := false }) e32 rfl (by rintro ⟨_, _, _, z⟩; rw [show h.bar = false from z] at hbar; cases hbar) (by rintro ⟨_, z⟩; rw [show h.bar = false from z] at hbar; cases hbar) (by rw [drop_more]; rintro ⟨z, _⟩; exact e36 z)] at heq
          unfold ruleItem at heq
          rw [drop_more] at heq
          refine ⟨_, rfl, .inl ⟨rfl, _, SqL.of hL2⟩, _, rfl, _, rfl, rd, ka, b, n + 1, kn, rfl, hR2, ?_, hk16, hk15, ?_⟩
          · obtain ⟨dx0, fs0, hi0⟩ := hR.ins
            exact sq_kp hi0 hK12 hkn
          · cases hz : itemM kn.reverse (b.drop (n + 1)) with
            | error k =>
              rw [hz] at heq
              rw [← heq] at hout
              exact hout
            | ok z =>
              rw [hz] at heq
              intro H3 hR3 l3 hK3 a hI
              have hL3 := hR.fresh hK3 _ _ hL hL2
              have hb : 0 < b.length := by have := hR3.2.1; omega
              refine ⟨L, _, _, rfl, rfl, hL3, ?_, ?_⟩
              · rw [List.length_map, hP.length]
                have h1 := hR'.2.1
                have h2 := hR'.2.2
                have : (262146 : Nat) < sizeLine := by decide
                omega
              · have ev : xs.map V.ref ++ [V.ref a] = (xs ++ [a]).map V.ref := by rw [List.map_append]; rfl
                rw [ev]
                have kpL : ∀ c o, Fresh (upd H L (.lst [])) c → H3 c = some o → upd H3 L (.lst ((xs ++ [a]).map V.ref)) c = some o := fun c o hf e => by
                  rw [upd_ne (fresh_new hf).1]
                  exact e
                refine ⟨n + 1 + z.2, l ++ [z.1], false, xs ++ [a], rfl, hR3.updL hL3 (bv_refs hb), by omega, fun c o e nn => ?_, upd_same, ?_, ?_, ?_⟩
                · have hcL : c ≠ L := fun z => by
                    rw [z, hL] at e
                    cases e
                  rw [upd_ne hcL]
                  exact hK3 c o (hK12 c o e nn) nn
                · exact paired_snoc (its_keep (its_keep hP2 fun c o hf e => hR.fresh hK3 c o (fresh_new hf).2 e) kpL) ((hI.imp (frx hR2 hK12 hL2)).keep kpL)
                · rw [← heq]
                  show _ = Fh.ruleFrom kn.reverse cut g' (n + 1 + z.2) (Fh.Half.with_ { h with behind := l.reverse, halt_ := false } z.1) ((b.drop n).drop (1 + z.2))
                  unfold Fh.Half.with_
                  rw [if_pos (show ({ h with behind := l.reverse, halt_ := false } : Fh.Half).bar = true from hbar), drop_more, List.reverse_append, show n + (1 + z.2) = n + 1 + z.2 by omega]
                  rfl
                · rw [List.length_append]
                  show l.length + 1 ≤ _
                  omega
/-! ### read_rule -/
/-- a Rule -/
def RuAt (CU CI : Addr) (F : Addr → Prop) (H : Hp) (a : Addr) (r : Fh.Rule) : Prop := F a ∧ ∃ (dx lb lh : Addr), H a = some (.ins CU dx (ruF (.bl r.cut) (.bl r.start) (.ref lb) (.ref lh) (.bl r.halt_))) ∧ ItsAt CI F H lb r.before ∧ ItsAt CI F H lh r.behind
theorem RuAt.keep {F : Addr → Prop} {H H' : Hp} {a : Addr} {r : Fh.Rule} (h : RuAt CU CI F H a r) (g : ∀ b o, F b → H b = some o → H' b = some o) : RuAt CU CI F H' a r := by
  obtain ⟨h1, dx, lb, lh, h2, h3, h4⟩ := h
  exact ⟨h1, dx, lb, lh, g _ _ h1 h2, h3.keep g, h4.keep g⟩
theorem RuAt.imp {F G : Addr → Prop} {H : Hp} {a : Addr} {r : Fh.Rule} (h : RuAt CU CI F H a r) (g : ∀ b, F b → G b) : RuAt CU CI G H a r := by
  obtain ⟨h1, dx, lb, lh, h2, h3, h4⟩ := h
  exact ⟨g _ h1, dx, lb, lh, h2, h3.imp g, h4.imp g⟩
/-- a rule's line, its sign too -/
def ruleM (ks : List Nat) (p : Nat) (b : Fh.Bytes) : Except Nat (Fh.Rule × Nat) := if lk b = 43 ∨ lk b = 45 then Fh.ruleFrom ks (lk b == 43) ((b.drop 1).length + 1) (p + 1) ⟨false, [], false, [], false⟩ (b.drop 1) else .error p
def spRule (CF CR CI CU : Addr) (K : PySem.W.Frag) : Sp := fun vs H Q E => ∃ (rd ka : Addr) (b : Fh.Bytes) (p : Nat) (kn : List Nat), vs = [.ref rd, .ref ka] ∧ HalfAt CR K H rd ka b p kn ∧
  OutA (ruleM kn.reverse p (b.drop p)) (fun r q => Good CR K H rd b p q fun H' => ∀ a, RuAt CU CI (Fresh H) H' a r → Q (.ref a) H') (Bad CF E)
theorem scRule : FnScope ["reader", "known", "cuts", "from_beginning", "before", "behind", "to_end"] ["reader", "known"] (defScope sRule) := ⟨rfl, rfl, rfl, by decide +kernel, rfl, by decide +kernel, by decide +kernel⟩
theorem ok_rule {f : Addr} {fd : FuncData} (F : Fun K "read_rule" "read_rule" sRule f fd) (T : TxR K mg CR) (TN : TxN mg) (GL : MethOk P w K mg base CX0 3 CR "look" ["self"] (spLook CR K)) (GT : MethOk P w K mg base (L2N.CX P w) 4 CR "take" ["self", "wanted"] (spTake CF CR K))
    (GB : CallOk P w K mg base (L2N.CX P w) 8 "read_before" ["reader", "known"] (spBefore CF CR CI K)) (GH : CallOk P w K mg base (L2N.CX P w) 8 "read_behind" ["reader", "known"] (spBehind CF CR CI K))
    (GU : NewOk P w K mg base 2 "Rule" CU ["self", "cuts", "from_beginning", "before", "behind", "to_end"] (spRuleI CU)) : FnOk P w K mg base (L2N.CX P w) 9 f fd ["reader", "known"] (spRule CF CR CI CU K) := by
  refine okN F scRule (fun vs H Q E h => ?_) (fun cdv A outer s H vs Q E hr h => ?_)
  · obtain ⟨rd, ka, b, p, kn, rfl, _⟩ := h
    rfl
  · obtain ⟨rd, ka, b, p, kn, rfl, ⟨hR, hkn, hk16, hk15⟩, hout⟩ := h
    have hr2 : Room 3 (A.deeper (envOfC (Str.ofString "read_rule") (defScope sRule) s.heap.objs.size f cdv)) := hr.mono (by decide)
    have hr3 : Room 4 (A.deeper (envOfC (Str.ofString "read_rule") (defScope sRule) s.heap.objs.size f cdv)) := hr.mono (by decide)
    refine ⟨_, pss_cons (ps_set (i := 2) scRule.nd rfl (Or.inl rfl) (pe_cmpR op_eq (pe_m GT T.cl hr3 (passN rfl rfl rfl rfl) (pv 0) (by exact (pa_cons (pe_lst (pa_cons (pe_k TN.plus (by rfl)) (pa_cons (pe_k TN.hyphen (by rfl)) pa_nil))) pa_nil))) (pe_k TN.plus (by rfl)) (nomark _)))
      (pss_cons (ps_expr (pe_m GT T.cl hr3 (passN rfl rfl rfl rfl) (pv 0) (by exact (pa_cons (pe_lst (pa_cons (pe_k TN.blank (by rfl)) pa_nil)) pa_nil))))
      (pss_cons (ps_set (i := 3) scRule.nd rfl (Or.inl rfl) (pe_cmpR op_eq (pe_m0 GL T.cl hr2 pass0 (pv 0)) (pe_k TN.caret (by rfl)) (nomark _)))
      (pss_cons (ps_if (pt_val (pv 3))
        (pss_cons (ps_expr (pe_m GT T.cl hr3 (passN rfl rfl rfl rfl) (pv 0) (by exact (pa_cons (pe_lst (pa_cons (pe_k TN.caret (by rfl)) pa_nil)) pa_nil))))
        (pss_one (ps_expr (pe_m GT T.cl hr3 (passN rfl rfl rfl rfl) (pv 0) (by exact (pa_cons (pe_lst (pa_cons (pe_k TN.blank (by rfl)) pa_nil)) pa_nil)))))) pss_nil)
      (pss_cons (ps_set (i := 4) scRule.nd rfl (Or.inl rfl) (pe_c GB hr (by rfl) (passN rfl rfl rfl rfl) (by exact (pa_cons (pv 0) (pa_cons (pv 1) pa_nil)))))
      (pss_cons (ps_asg (pe_c GH hr (by rfl) (passN rfl rfl rfl rfl) (by exact (pa_cons (pv 0) (pa_cons (pv 1) pa_nil)))) (pg_tup rfl (pgs_cons (pg_name (i := 5) scRule.nd rfl (Or.inl rfl)) (pgs_cons (pg_name (i := 6) scRule.nd rfl (Or.inl rfl)) pgs_nil))))
      (pss_one (ps_ret (pe_mk GU hr2 (by rfl) (by exact (pa_cons (pv 2) (pa_cons (pv 3) (pa_cons (pv 4) (pa_cons (pv 5) (pa_cons (pv 6) pa_nil)))))))))))))), ?_⟩
    obtain ⟨dx0, fs0, hi0⟩ := hR.ins
    -- the two halves, the Rule made of them
    have tail : ∀ (cut st : Bool) (q g : Nat) (H3 : Hp), OutA (Fh.ruleFrom kn.reverse cut g q ⟨st, [], false, [], false⟩ (b.drop q)) (fun r q' => Good CR K H rd b p q' fun H' => ∀ a, RuAt CU CI (Fresh H) H' a r → Q (.ref a) H') (Bad CF E) →
        RdAt CR K H3 rd b (q + 1) → Kp rd H H3 → lk (b.drop q) = 32 → (st = true ∨ lk (b.drop (q + 1)) ≠ 94) → (b.drop q).length < g → p < q →
        tSeq (tAsg (tCall (spBefore CF CR CI K) [] E (tCons (tVar 0) (tCons (tVar 1) tNil))) (gName 4)) (tSeq (tAsg (tCall (spBehind CF CR CI K) [] E (tCons (tVar 0) (tCons (tVar 1) tNil))) (gTup K 2 (gCons (gName 5) (gCons (gName 6) gNil))))
          (tRet (tMake CU (spRuleI CU) [] E0 (tCons (tVar 2) (tCons (tVar 3) (tCons (tVar 4) (tCons (tVar 5) (tCons (tVar 6) tNil)))))))) { nx := fun _ H' => Q .non H', rt := Q } [some (.ref rd), some (.ref ka), some (.bl cut), some (.bl st), none, none, none] H3 := by
      intro cut st q g H3 hout hR3 hK3 h32 hst hg hpq
      refine ⟨_, rfl, _, rfl, rd, ka, b, q, g, kn, ⟨st, [], false, [], false⟩, cut, rfl, ⟨hR3, sq_kp hi0 hK3 hkn, hk16, hk15⟩, h32, rfl, rfl, rfl, hst, hg, fun H4 q' g' l a hR4 hlt hK4 hg' heq hI => ?_, fun k hk => ?_⟩
      · have hKK : Kp rd H H4 := hK3.trans hK4
        refine ⟨_, rfl, _, rfl, rd, ka, b, q', g', kn, ⟨st, l.reverse, true, [], false⟩, cut, rfl, ⟨hR4, sq_kp hi0 hKK hkn, hk16, hk15⟩, rfl, rfl, rfl, hg', by omega, ?_⟩
        rw [show Fh.ruleFrom kn.reverse cut g' q' ⟨st, l.reverse, true, [], false⟩ (b.drop q') = Fh.ruleFrom kn.reverse cut g q ⟨st, [], false, [], false⟩ (b.drop q) from heq]
        cases hz : Fh.ruleFrom kn.reverse cut g q ⟨st, [], false, [], false⟩ (b.drop q) with
        | error k =>
          rw [hz] at hout
          exact hout
        | ok z =>
          rw [hz] at hout
          intro H5 hR5 l5 hK5 t la e lh ht hT hIh hr'
          refine ⟨t, _, rfl, .inl (.inl hT), rfl, _, _, rfl, _, _, rfl, rfl, ?_⟩
          refine ⟨_, rfl, _, rfl, _, rfl, _, rfl, _, rfl, fun x dx nx nd ne => ⟨x, dx, _, _, _, _, _, rfl, upd_same, fun H6 h6 k6 => ⟨rfl, ?_⟩⟩⟩
          have sm : Same H5 H6 := Same.made nx nd k6
          have hK5' : Kp rd H H5 := hKK.trans hK5
          refine hout H6 (hR5.same sm) (by omega) (hK5'.trans (Kp.same sm)) x ?_
          rw [hr']
          refine ⟨fresh_of hR5 hK5' x nx, dx, a, la, h6, ?_, ?_⟩
          · rw [List.reverse_reverse]
            exact ((hI.keep fun c o hf z => hR3.fresh hK5 c o hf z).keep fun c o _ z => sm c o z).imp (fresh_of hR3 hK3)
          · exact (hIh.keep fun c o _ z => sm c o z).imp (fresh_of hR4 hKK)
      · rw [hk] at hout
        exact hout
    unfold ruleM at hout
    rw [drop_more] at hout
    refine m_take [43, 45] (E := E) rfl hR (fun n hn => ?_) (by decide) (fun Q' q => q) (fun hm H1 hR1 l1 hK1 => ?_) (fun hm => ?_)
    · have : n = 43 ∨ n = 45 := by simpa using hn
      omega
    · have hm' : lk (b.drop p) = 43 ∨ lk (b.drop p) = 45 := by simpa using hm
      rw [if_pos hm'] at hout
      refine ⟨rfl, ?_⟩
      have ecut : decide (V.int (lk (b.drop p) : Nat) = V.int 43) = (lk (b.drop p) == 43) := by
        rw [decI2]
        by_cases q : lk (b.drop p) = 43
        · rw [q]; rfl
        · rw [decide_eq_false (by omega), beq_eq_false_iff_ne.mpr q]
      dsimp only
      rw [ecut]
      generalize (lk (b.drop p) == 43) = cut at hout
      refine m_take1 (n := 32) (E := E) (by omega) rfl hR1 (fun e32 H2 hR2 l2 hK2 => ?_) (fun e32 => ?_)
      · have hK12 : Kp rd H H2 := hK1.trans hK2
        refine m_look rfl hR2 ⟨rfl, ?_⟩
        have e94 : decide (V.int (lk (b.drop (p + 1 + 1)) : Nat) = V.int 94) = decide (lk (b.drop (p + 1 + 1)) = 94) := decI
        dsimp only
        rw [e94]
        refine ⟨_, rfl, _, rfl, tst (fun q94 => ?_) (fun q94 => ?_)⟩
        · rw [decide_eq_true q94]
          refine m_take1 (n := 94) (E := E) (by omega) rfl hR2 (fun _ H3 hR3 l3 hK3 => ?_) (fun z => absurd q94 z)
          rw [rule_caret e32 rfl (by rw [drop_more]; exact q94) rfl rfl rfl, drop_more] at hout
          refine m_take1 (n := 32) (E := E) (by omega) rfl hR3 (fun f32 H4 hR4 l4 hK4 => ?_) (fun f32 => ?_)
          · refine tail cut true (p + 1 + 2) _ H4 hout hR4 ((hK12.trans hK3).trans hK4) f32 (.inl rfl) ?_ (by omega)
            rw [len_drop, len_drop]
            have := hR4.2.1
            omega
          · obtain ⟨g2, hg2⟩ : ∃ g2, (b.drop (p + 1)).length = g2 + 1 := ⟨(b.drop (p + 1)).length - 1, by rw [len_drop]; have := hR3.2.1; omega⟩
            rw [hg2, rule_stop (fun z => by cases z.2) (.inl f32)] at hout
            exact hout
        · rw [decide_eq_false q94]
          refine tail cut false (p + 1) _ H2 hout hR2 hK12 e32 (.inr q94) (Nat.lt_succ_self _) (by omega)
      · rw [rule_stop (fun z => by cases z.2) (.inl e32)] at hout
        exact hout
    · rw [if_neg (fun z => hm (by simpa using z))] at hout
      exact hout
end
end Sg

/-! SgRt7 -/
set_option Elab.async false
set_option linter.all false
set_option maxRecDepth 100000
set_option maxHeartbeats 4000000
namespace Sg
open PySem PySem.Spec PyProof.Rows L2
abbrev Cls1 := Nat × List (Nat × Nat)
def ClP (F : Addr → Prop) (H : Hp) (kvs : List (Key × V)) (cs : List Cls1) : Prop := Paired (fun (kv : Key × V) (c : Cls1) => kv.1 = Sum.inl ((c.1 : Nat) : Int) ∧ ∃ a, kv.2 = .ref a ∧ RgL F H a c.2) kvs cs
def ClAt (F : Addr → Prop) (H : Hp) (d : Addr) (cs : List Cls1) : Prop := F d ∧ ∃ kvs : List (Key × V), H d = some (.dK kvs) ∧ ClP F H kvs cs
theorem ClP.keep {F : Addr → Prop} {H H' : Hp} {kvs : List (Key × V)} {cs : List Cls1} (h : ClP F H kvs cs) (g : ∀ b o, F b → H b = some o → H' b = some o) : ClP F H' kvs cs := h.mono fun _ _ z => ⟨z.1, let ⟨a, e, r⟩ := z.2; ⟨a, e, r.keep g⟩⟩
theorem ClP.imp {F G : Addr → Prop} {H : Hp} {kvs : List (Key × V)} {cs : List Cls1} (h : ClP F H kvs cs) (g : ∀ b, F b → G b) : ClP G H kvs cs := h.mono fun _ _ z => ⟨z.1, let ⟨a, e, r⟩ := z.2; ⟨a, e, r.imp g⟩⟩
theorem ClAt.keep {F : Addr → Prop} {H H' : Hp} {d : Addr} {cs : List Cls1} (h : ClAt F H d cs) (g : ∀ b o, F b → H b = some o → H' b = some o) : ClAt F H' d cs := by
  obtain ⟨h1, kvs, h2, h3⟩ := h
  exact ⟨h1, kvs, g _ _ h1 h2, h3.keep g⟩
theorem ClAt.imp {F G : Addr → Prop} {H : Hp} {d : Addr} {cs : List Cls1} (h : ClAt F H d cs) (g : ∀ b, F b → G b) : ClAt G H d cs := by
  obtain ⟨h1, kvs, h2, h3⟩ := h
  exact ⟨g _ h1, kvs, h2, h3.imp g⟩
theorem RgL.updD {F : Addr → Prop} {H : Hp} {a d : Addr} {rs : List (Nat × Nat)} {kvs : List (Key × V)} {o : HO} (h : RgL F H a rs) (hd : H d = some (.dK kvs)) : RgL F (upd H d o) a rs := by
  obtain ⟨h1, ts, h2, h3⟩ := h
  refine ⟨h1, ts, by rw [upd_ne (ne_of h2 hd (by intro q; cases q))]; exact h2, h3.mono fun t r z => ⟨z.1, ?_⟩⟩
  rw [upd_ne (ne_of z.2 hd (by intro q; cases q))]
  exact z.2
theorem paired_mem {α β : Type} {R : α → β → Prop} : ∀ {l : List α} {m : List β}, Paired R l m → ∀ x ∈ l, ∃ y ∈ m, R x y
  | _, _, .nil, x, h => by simp at h
  | _, _, .cons q r, x, h => by
    rcases List.mem_cons.mp h with e | h
    · subst e
      exact ⟨_, List.mem_cons_self, q⟩
    · obtain ⟨y, hy, z⟩ := paired_mem r x h
      exact ⟨y, List.mem_cons_of_mem _ hy, z⟩
theorem valV_free {kvs : List (Key × V)} {n : Nat} (h : ∀ kv ∈ kvs, kv.1 ≠ Sum.inl ((n : Nat) : Int)) : valV kvs (Sum.inl ((n : Nat) : Int)) = none := by
  induction kvs with
  | nil => rfl
  | cons p r ih =>
    rw [valV_neg (h p List.mem_cons_self)]
    exact ih fun kv hkv => h kv (List.mem_cons_of_mem _ hkv)
section
variable {P : Program} {w : World} {K : PySem.W.Frag} {mg : Str → Option Value} {base : Heap} {CF CR CI CU CS : Addr}
theorem TxtAt.updD {H : Hp} {a d : Addr} {b : Fh.Bytes} {kvs : List (Key × V)} {o : HO} (h : TxtAt K H a b) (hd : H d = some (.dK kvs)) : TxtAt K (upd H d o) a b := by
  obtain ⟨full, h2, h3⟩ := h
  refine ⟨full, ?_, h3⟩
  rcases h2 with (h | ⟨o', h⟩) | h
  · refine .inl (.inl ?_)
    rw [upd_ne (ne_of h hd (by intro z; cases z))]
    exact h
  · refine .inl (.inr ⟨o', ?_⟩)
    rw [upd_ne (ne_of h hd (by intro z; cases z))]
    exact h
  · exact .inr h
theorem RdAt.updD {H : Hp} {rd d p : Addr} {b : Fh.Bytes} {kvs : List (Key × V)} {o : HO} (h : RdAt CR K H rd b p) (hd : H d = some (.dK kvs)) : RdAt CR K (upd H d o) rd b p := by
  obtain ⟨⟨a, dx, h1, h2⟩, h3⟩ := h
  refine ⟨⟨a, dx, ?_, h2.updD hd⟩, h3⟩
  rw [upd_ne (ne_of h1 hd (by intro z; cases z))]
  exact h1
/-! ### read_classes -/
/-- classes as the specification has them (the last first): their numbers fall, none above 15 -/
def ClOk (l : List Cls1) : Prop := (∀ c ∈ l, c.1 < nextCls l ∧ c.1 ≤ 15) ∧ l.length ≤ nextCls l ∧ nextCls l ≤ 16
def spClasses (CF CR : Addr) (K : PySem.W.Frag) : Sp := fun vs H Q E => ∃ (rd : Addr) (b : Fh.Bytes) (p f : Nat), vs = [.ref rd] ∧ RdAt CR K H rd b p ∧ (b.drop p).length < f ∧
  (∀ (H' : Hp) (q g : Nat) (l : List Cls1) (d : Addr), RdAt CR K H' rd b q → Kp rd H H' → (b.drop q).length < g → Fh.rulesFrom g q l [] (b.drop q) = Fh.rulesFrom f p [] [] (b.drop p) → ¬ (lk (b.drop q) = 37 ∧ nextCls l < 16) → ClOk l → ClAt (Fresh H) H' d l.reverse → Q (.ref d) H') ∧
  ∀ k, Fh.rulesFrom f p [] [] (b.drop p) = .error k → Bad CF E k
theorem scClasses : FnScope ["reader", "classes", "least", "number"] ["reader"] (defScope sClasses) := ⟨rfl, rfl, rfl, by decide +kernel, rfl, by decide +kernel, by decide +kernel⟩
theorem cls_step {g n : Nat} {l : List Cls1} {b : Fh.Bytes} (h37 : lk b = 37) (h16 : nextCls l < 16) : Fh.rulesFrom (g + 1) n l [] b = clsStep g n l [] b := by
  rw [rulesFrom_step, if_neg (fun z => by rw [z] at h37; cases h37), if_pos ⟨h37, rfl, h16⟩]
theorem ok_classes {f : Addr} {fd : FuncData} (F : Fun K "read_classes" "read_classes" sClasses f fd) (T : TxR K mg CR) (TN : TxN mg) (GL : MethOk P w K mg base CX0 3 CR "look" ["self"] (spLook CR K)) (GT : MethOk P w K mg base (L2N.CX P w) 4 CR "take" ["self", "wanted"] (spTake CF CR K))
    (GN : MethOk P w K mg base (L2N.CX P w) 4 CR "take_number" ["self", "ranges"] (spNumber CF CR K)) (GR : CallOk P w K mg base (L2N.CX P w) 6 "read_ranges" ["reader"] (spRanges CF CR K)) : FnOk P w K mg base (L2N.CX P w) 7 f fd ["reader"] (spClasses CF CR K) := by
  refine okN F scClasses (fun vs H Q E h => ?_) (fun cdv A outer s H vs Q E hr h => ?_)
  · obtain ⟨rd, b, p, f, rfl, _⟩ := h
    rfl
  · obtain ⟨rd, b, p, fu, rfl, hR, hfu, good, bad⟩ := h
    have hu := hu_of hr
    have hr2 : Room 3 (A.deeper (envOfC (Str.ofString "read_classes") (defScope sClasses) s.heap.objs.size f cdv)) := hr.mono (by decide)
    have hr3 : Room 4 (A.deeper (envOfC (Str.ofString "read_classes") (defScope sClasses) s.heap.objs.size f cdv)) := hr.mono (by decide)
    refine ⟨_, pss_cons (ps_set (i := 1) scClasses.nd rfl (Or.inl rfl) pe_dnewK)
      (pss_cons (ps_set (i := 2) scClasses.nd rfl (Or.inl rfl) pe_int)
      (pss_cons (ps_while (passes_of rfl) (PW.pt (pw_and (pt_cmpR op_eq (pe_m0 GL T.cl hr2 pass0 (pv 0)) (pe_k TN.percent (by rfl)) (nomark _)) (pw_and1 (pt_cmpR op_le (pv 2) (pe_k TN.lastC (by rfl)) (nomark _)))))
        (pss_cons (ps_expr (pe_m GT T.cl hr3 (passN rfl rfl rfl rfl) (pv 0) (by exact (pa_cons (pe_lst (pa_cons (pe_k TN.percent (by rfl)) pa_nil)) pa_nil))))
        (pss_cons (ps_set (i := 3) scClasses.nd rfl (Or.inl rfl) (pe_m GN T.cl hr3 (passN rfl rfl rfl rfl) (pv 0) (by exact (pa_cons (pe_lst (pa_cons (pe_tup (pa_cons (pv 2) (pa_cons (pe_k TN.lastC (by rfl)) pa_nil))) pa_nil)) pa_nil))))
        (pss_cons (ps_dput hu (pv 1) (pv 3) (pe_c GR hr (by rfl) (passN rfl rfl rfl rfl) (by exact (pa_cons (pv 0) pa_nil))) rfl)
        (pss_one (ps_set (i := 2) scClasses.nd rfl (Or.inl rfl) (pe_op op_add (pv 3) pe_int)))))))
      (pss_one (ps_ret (pv 1))))), ?_⟩
    intro d hd
    refine ⟨fun m σ H' => ∃ (n g : Nat) (l : List Cls1) (kvs : List (Key × V)) (o3 : Option V), σ = [some (.ref rd), some (.ref d), some (.int (nextCls l : Nat)), o3] ∧ RdAt CR K H' rd b n ∧ Kp rd H H' ∧ H' d = some (.dK kvs) ∧ ClP (Fresh H) H' kvs l.reverse ∧ ClOk l ∧
        (b.drop n).length < g ∧ Fh.rulesFrom g n l [] (b.drop n) = Fh.rulesFrom fu p [] [] (b.drop p) ∧ m = b.length - n,
      ⟨_, p, fu, [], [], none, rfl, hR.same (same_new hd), Kp.new hd, upd_same, .nil, ⟨fun c hc => by simp at hc, Nat.le_refl _, Nat.zero_le _⟩, hfu, rfl, rfl⟩, ?_⟩
    rintro m σ H' ⟨n, g, l, kvs, o3, rfl, hR', hK', hHd, hP, hok, hg, heq, rfl⟩
    obtain ⟨g, rfl⟩ : ∃ g', g = g' + 1 := ⟨g - 1, by omega⟩
    have fin : ¬ (lk (b.drop n) = 37 ∧ nextCls l < 16) → tRet (tVar 1) { nx := fun _ H' => Q .non H', rt := Q } [some (.ref rd), some (.ref d), some (.int (nextCls l : Nat)), o3] H' := fun hz =>
      ⟨_, rfl, good H' n (g + 1) l d hR' hK' hg heq hz hok ⟨hd, kvs, hHd, hP⟩⟩
    refine t_look (n := 37) rfl hR' (fun e37 => iteT ?_) (fun e37 => iteF (iteF (fin fun z => e37 z.1)))
    refine ⟨_, rfl, _, _, rfl, rfl, _, rfl, tst (fun h15 => ?_) (fun h15 => fin fun z => by omega)⟩
    have h16 : nextCls l < 16 := by omega
    rw [cls_step e37 h16] at heq
    unfold clsStep at heq
    rw [drop_more] at heq
    refine ⟨fun σ' H2 => ∃ (n2 : Nat) (l2 : List Cls1) (kvs2 : List (Key × V)) (o3 : Option V), σ' = [some (.ref rd), some (.ref d), some (.int (nextCls l2 : Nat)), o3] ∧ RdAt CR K H2 rd b n2 ∧ n < n2 ∧ Kp rd H H2 ∧ H2 d = some (.dK kvs2) ∧ ClP (Fresh H) H2 kvs2 l2.reverse ∧ ClOk l2 ∧
        Fh.rulesFrom g n2 l2 [] (b.drop n2) = Fh.rulesFrom fu p [] [] (b.drop p), ?_, ?_⟩
    · rintro σ' H2 ⟨n2, l2, kvs2, o3', h1, h2, h3, h4, h5, h6, h7, h8⟩
      refine ⟨_, ?_, n2, g, l2, kvs2, o3', h1, h2, h4, h5, h6, h7, ?_, h8, rfl⟩
      · have := h2.2.1
        omega
      · rw [len_drop] at hg ⊢
        have := h2.2.1
        omega
    · refine m_take1 (n := 37) (E := E) (by omega) rfl hR' (fun _ H2 hR2 l2 hK2 => ?_) (fun z => absurd e37 z)
      refine m_number (lo := nextCls l) (hi := 15) (E := E) rfl hR2 (by decide) (fun Q' q => ⟨_, rfl, q⟩) (fun Q' q => q) ?_
      cases hx : num (nextCls l) 15 (b.drop (n + 1)) with
      | error k =>
        rw [hx] at heq
        exact bad _ heq.symm
      | ok x =>
        rw [hx] at heq
        intro H3 hR3 l3 hK3
        have hwi : nextCls l ≤ x.1 ∧ x.1 ≤ 15 := by
          have z := (numberHere_ok _ _ _ _ _ hx).1
          unfold Fh.within at z
          rw [Bool.and_eq_true, decide_eq_true_eq, decide_eq_true_eq] at z
          exact z
        simp only [drop_more] at heq
        have en : n + 1 + x.2 = n + (1 + x.2) := by omega
        refine ⟨_, rfl, rd, b, n + 1 + x.2, (b.drop (n + 1)).length + 1, rfl, hR3, ?_, ?_⟩
        · rw [len_drop, len_drop]
          have := hR3.2.1
          omega
        · rw [← en] at heq
          cases hy : Fh.rangesFrom ((b.drop (n + 1)).length + 1) (n + 1 + x.2) [] (b.drop (n + 1 + x.2)) with
          | error k =>
            rw [hy] at heq
            exact bad _ heq.symm
          | ok y =>
            rw [hy] at heq
            intro H4 hR4 l4 hK4
            intro a hA
            have hKd : Kp rd H H4 := ((hK'.trans hK2).trans hK3).trans hK4
            have hd4 : H4 d = some (.dK kvs) := hR.fresh hK4 _ _ hd (hR.fresh hK3 _ _ hd (hR.fresh hK2 _ _ hd hHd))
            have hP4 : ClP (Fresh H) H4 kvs l.reverse := ((hP.keep (hR.fresh hK2)).keep (hR.fresh hK3)).keep (hR.fresh hK4)
            have hfree : valV kvs (Sum.inl ((x.1 : Nat) : Int)) = none := by
              refine valV_free fun kv hkv e => ?_
              obtain ⟨c, hc, h1, _⟩ := paired_mem hP kv hkv
              have h2 := (hok.1 c (List.mem_reverse.mp hc)).1
              rw [h1] at e
              have := Sum.inl.inj e
              omega
            have hlen : kvs.length ≤ 16 := by
              rw [hP.length, List.length_reverse]
              have := hok.2
              omega
            have hsz : (17 : Nat) < sizeLine := by decide
            refine ⟨_, rfl, _, rfl, d, _, rfl, DPut.k (k := Sum.inl ((x.1 : Nat) : Int)) hd4 (by omega), _, rfl, _, _, rfl, rfl, ?_⟩
            rw [putK_new _ hfree]
            have hnx : nextCls ((x.1, y.1) :: l) = x.1 + 1 := rfl
            refine ⟨y.2, (x.1, y.1) :: l, kvs ++ [(Sum.inl ((x.1 : Nat) : Int), V.ref a)], some (.int (x.1 : Nat)), ?_, hR4.updD hd4, by omega, fun c o e nn => ?_, upd_same, ?_, ⟨fun c hc => ?_, ?_, ?_⟩, ?_⟩
            · rw [hnx]
              rfl
            · have hcd : c ≠ d := fun z => by
                rw [z, hd] at e
                cases e
              rw [upd_ne hcd]
              exact hKd c o e nn
            · rw [List.reverse_cons]
              refine paired_snoc (hP4.mono fun kv c z => ⟨z.1, let ⟨a', e, r⟩ := z.2; ⟨a', e, r.updD hd4⟩⟩) ⟨rfl, a, rfl, ?_⟩
              exact (hA.imp (fresh_of hR3 ((hK'.trans hK2).trans hK3))).updD hd4
            · rcases List.mem_cons.mp hc with e | hc
              · subst e
                exact ⟨by rw [hnx]; exact Nat.lt_succ_self _, hwi.2⟩
              · have := hok.1 c hc
                rw [hnx]
                omega
            · rw [hnx, List.length_cons]
              have := hok.2
              omega
            · rw [hnx]
              omega
            · rw [← heq]
              show _ = Fh.rulesFrom g y.2 ((x.1, y.1) :: l) [] (b.drop (n + (y.2 - n)))
              rw [show n + (y.2 - n) = y.2 by omega]
/-! ### read_rules -/
/-- a RuleSet -/
def RsAt (CS CU CI : Addr) (F : Addr → Prop) (H : Hp) (x : Addr) (R : Fh.Rules) : Prop := ∃ (dx d l : Addr), H x = some (.ins CS dx (rsF (.ref d) (.ref l))) ∧ ClAt F H d R.classes ∧ R.classes.length ≤ 16 ∧ ∃ xs : List Addr, H l = some (.lst (xs.map V.ref)) ∧ Paired (fun x r => RuAt CU CI F H x r) xs R.rules
def spRules (CF CI CU CS : Addr) (K : PySem.W.Frag) : Sp := fun vs H Q E => ∃ (a : Addr) (b : Fh.Bytes), vs = [.ref a] ∧ SqL K H a (bv b) ∧ b.length ≤ 262144 ∧
  (∀ k, Fh.rulesRead b = .error k → Bad CF E k) ∧ ∀ R, Fh.rulesRead b = .ok R → ∀ (H' : Hp) (x : Addr), Same H H' → RsAt CS CU CI (Fresh H) H' x R → Q (.ref x) H'
theorem scRules : FnScope ["text", "reader", "classes", "known", "found"] ["text"] (defScope sRules) := ⟨rfl, rfl, rfl, by decide +kernel, rfl, by decide +kernel, by decide +kernel⟩
theorem rul_step {g n : Nat} {cs : List Cls1} {rs : List Fh.Rule} {b : Fh.Bytes} (hb : b ≠ []) (h : ¬ (lk b = 37 ∧ rs.isEmpty = true ∧ nextCls cs < 16)) : Fh.rulesFrom (g + 1) n cs rs b = match ruleM (cs.map fun (x : Cls1) => x.1) n b with
    | .error k => .error k
    | .ok y => Fh.rulesFrom g y.2 cs (y.1 :: rs) (b.drop (y.2 - n)) := by
  rw [rulesFrom_step, if_neg hb, if_neg h]
  unfold ruleM rulStep
  by_cases q : lk b = 43 ∨ lk b = 45
  · rw [if_pos q, if_pos q]
    all_goals cases Fh.ruleFrom (cs.map fun (x : Cls1) => x.1) (lk b == 43) ((b.drop 1).length + 1) (n + 1) ⟨false, [], false, [], false⟩ (b.drop 1) <;> rfl
  · rw [if_neg q, if_neg q]
theorem keys_of {F : Addr → Prop} {H : Hp} : ∀ {kvs : List (Key × V)} {cs : List Cls1}, ClP F H kvs cs → (kvs.map fun kv => kV kv.1) = nvs (cs.map fun c => c.1)
  | _, _, .nil => rfl
  | kv :: kvs, c :: cs, .cons q r => by
    show kV kv.1 :: kvs.map (fun kv => kV kv.1) = V.int (c.1 : Nat) :: nvs (cs.map fun c => c.1)
    rw [keys_of r, q.1]
    rfl
theorem ok_rules {f : Addr} {fd : FuncData} (F : Fun K "read_rules" "read_rules" sRules f fd) (T : TxR K mg CR) (TN : TxN mg) (GE : MethOk P w K mg base CX0 2 CR "ended" ["self"] (spEnded CR K)) (GR : NewOk P w K mg base 2 "Reader" CR ["self", "text", "first", "behind"] (spRdI CR))
    (GC : CallOk P w K mg base (L2N.CX P w) 7 "read_classes" ["reader"] (spClasses CF CR K)) (GU : CallOk P w K mg base (L2N.CX P w) 9 "read_rule" ["reader", "known"] (spRule CF CR CI CU K)) (GS : NewOk P w K mg base 2 "RuleSet" CS ["self", "classes", "rules"] (spSetI CS)) :
    FnOk P w K mg base (L2N.CX P w) 10 f fd ["text"] (spRules CF CI CU CS K) := by
  refine okN F scRules (fun vs H Q E h => ?_) (fun cdv A outer s H vs Q E hr h => ?_)
  · obtain ⟨a, b, rfl, _⟩ := h
    rfl
  · obtain ⟨a, b, rfl, hS, hb, bad, good⟩ := h
    have hr1 : Room 2 (A.deeper (envOfC (Str.ofString "read_rules") (defScope sRules) s.heap.objs.size f cdv)) := hr.mono (by decide)
    have hr2 : Room 3 (A.deeper (envOfC (Str.ofString "read_rules") (defScope sRules) s.heap.objs.size f cdv)) := hr.mono (by decide)
    have hr6 : Room 7 (A.deeper (envOfC (Str.ofString "read_rules") (defScope sRules) s.heap.objs.size f cdv)) := hr.mono (by decide)
    refine ⟨_, pss_cons (ps_set (i := 1) scRules.nd rfl (Or.inl rfl) (pe_mk GR hr2 (by rfl) (by exact (pa_cons (pv 0) (pa_cons pe_int (pa_cons (pe_callB call_len_seq (by rfl) TN.len PySem.boot_len (pa_cons (pv 0) pa_nil)) pa_nil))))))
      (pss_cons (ps_set (i := 2) scRules.nd rfl (Or.inl rfl) (pe_c GC hr6 (by rfl) (passN rfl rfl rfl rfl) (by exact (pa_cons (pv 1) pa_nil))))
      (pss_cons (ps_set (i := 3) scRules.nd rfl (Or.inl rfl) (pe_callTy (call_list_dK rfl) (by rfl) TN.list PyProof.Rows.boot_list (pa_cons (pv 2) pa_nil)))
      (pss_cons (ps_set (i := 4) scRules.nd rfl (Or.inl rfl) (pe_lst pa_nil))
      (pss_cons (ps_while (passes_of rfl) (pt_not (pt_val (pe_m0 GE T.cl hr1 pass0 (pv 1))))
        (pss_one (ps_expr (pe_bm PySem.F.plainAttrs_list PySem.F.slot_list_append PySem.F.type_list_append mt_append (pv 4) (pa_cons (pe_c GU hr (by rfl) (passN rfl rfl rfl rfl) (by exact (pa_cons (pv 1) (pa_cons (pv 3) pa_nil)))) pa_nil)))))
      (pss_one (ps_ret (pe_mk GS hr2 (by rfl) (by exact (pa_cons (pv 2) (pa_cons (pv 4) pa_nil)))))))))), ?_⟩
    refine ⟨_, rfl, _, rfl, a, _, rfl, .inl hS, fun rd dx nrd ndx nne => ⟨rd, dx, a, 0, b.length, (by rw [bv_len]; rfl), upd_same, fun H1 h1 k1 => ⟨rfl, ?_⟩⟩⟩
    have s1 : Same H H1 := Same.made nrd ndx k1
    have hR1 : RdAt CR K H1 rd b 0 := ⟨⟨a, dx, h1, .of (s1.seq hS)⟩, Nat.zero_le _, hb⟩
    refine ⟨_, rfl, rd, b, 0, b.length + 1, rfl, hR1, Nat.lt_succ_self _, fun H2 q g l d hR2 hK2 hg heq hz hok hd => ?_, fun k hk => bad k hk⟩
    obtain ⟨hdF, kvs, hd2, hP⟩ := hd
    refine ⟨_, rfl, d, kvs, rfl, hd2, fun ka hka => ?_⟩
    rw [keys_of hP]
    refine ⟨(by show 0 ≤ sizeLine; decide), fun L hL => ?_⟩
    have hka2 : Same H2 (upd H2 ka (.lst (nvs (l.reverse.map fun c => c.1)))) := same_new hka
    have hRa := hR2.same hka2
    have hrd1 : ∀ c o, H c = some o → c ≠ rd := fun c o e z => by
      rw [z, nrd] at e
      cases e
    -- the numbers known
    have ekr : (l.reverse.map fun c => c.1).reverse = l.map fun c => c.1 := by rw [List.map_reverse, List.reverse_reverse]
    have hk16 : (l.reverse.map fun c => c.1).length ≤ 16 := by
      rw [List.length_map, List.length_reverse]
      have := hok.2
      omega
    have hk15 : ∀ s ∈ (l.reverse.map fun c => c.1), s ≤ 15 := fun s hs => by
      obtain ⟨c, hc, rfl⟩ := List.mem_map.mp hs
      exact (hok.1 c (List.mem_reverse.mp hc)).2
    refine ⟨fun m σ H' => ∃ (n g : Nat) (rs : List Fh.Rule) (xs : List Addr), σ = [some (.ref a), some (.ref rd), some (.ref d), some (.ref ka), some (.ref L)] ∧ RdAt CR K H' rd b n ∧ Kp rd (upd H2 ka (.lst (nvs (l.reverse.map fun c => c.1)))) H' ∧ H' L = some (.lst (xs.map V.ref)) ∧
        Paired (fun x r => RuAt CU CI (Fresh (upd (upd H2 ka (.lst (nvs (l.reverse.map fun c => c.1)))) L (.lst []))) H' x r) xs rs.reverse ∧ (b.drop n).length < g ∧ Fh.rulesFrom g n l rs (b.drop n) = Fh.rulesRead b ∧ (rs = [] → ¬ (lk (b.drop n) = 37 ∧ nextCls l < 16)) ∧ rs.length ≤ n ∧ m = b.length - n,
      ⟨_, q, g, [], [], rfl, hRa.same (same_new hL), Kp.new hL, upd_same, .nil, hg, heq, fun _ => hz, Nat.zero_le _, rfl⟩, ?_⟩
    rintro m σ H' ⟨n, g', rs, xs, rfl, hR', hK', hHL, hPr, hg', heq', hz', hlen, rfl⟩
    obtain ⟨g', rfl⟩ : ∃ g'', g' = g'' + 1 := ⟨g' - 1, by omega⟩
    obtain ⟨⟨a1, dx1, g1, g2⟩, hp1, _⟩ := id hR'
    refine ⟨_, rfl, rd, dx1, _, rfl, g1, rdF_no _ _ (by decide +kernel) (by decide +kernel), rd, b, n, rfl, hR', _, rfl, ?_⟩
    by_cases hn : n = b.length
    · rw [decide_eq_true hn]
      refine iteF ?_
      refine ⟨_, rfl, _, rfl, fun x dx' nx nd' ne' => ⟨x, dx', _, _, rfl, upd_same, fun H5 h5 k5 => ⟨rfl, ?_⟩⟩⟩
      have s5 : Same H' H5 := Same.made nx nd' k5
      have eR : Fh.rulesRead b = .ok ⟨l.reverse, rs.reverse⟩ := by
        rw [← heq', List.drop_eq_nil_of_le (by omega), rulesFrom_step, if_pos rfl]
      have fr1 : ∀ c, Fresh H1 c → Fresh H c := fun c hc => s1.free hc
      have frb : ∀ c, Fresh (upd (upd H2 ka (.lst (nvs (l.reverse.map fun c => c.1)))) L (.lst [])) c → Fresh H c := fun c hc => fr1 c (fresh_of hR2 hK2 c (fresh_new (fresh_new hc).2).2)
      refine good _ eR H5 x (fun c o e => ?_) ⟨dx', d, L, h5, ?_, by rw [List.length_map] at hk16; exact hk16, xs, s5 _ _ hHL, ?_⟩
      · have hc := hrd1 c o e
        exact s5 c o (hK' c o (hka2 c o (hK2 c o (s1 c o e) hc)) hc)
      · refine (ClAt.keep (F := Fresh H1) (H := H2) ⟨hdF, kvs, hd2, hP⟩ fun c o hf e => s5 c o (hR1.fresh hK' c o hf (hka2 c o e))).imp fr1
      · exact (hPr.mono fun y r z => (z.keep fun c o _ e => s5 c o e).imp frb)
    · rw [decide_eq_false hn]
      refine iteT ?_
      have hne : b.drop n ≠ [] := fun z => by
        have := congrArg List.length z
        rw [len_drop] at this
        simp at this
        omega
      rw [rul_step hne (fun z => hz' (List.isEmpty_iff.mp z.2.1) ⟨z.1, z.2.2⟩), ← ekr] at heq'
      refine ⟨fun σ' H4 => ∃ (y : Fh.Rule × Nat) (x : Addr), ruleM (l.reverse.map fun c => c.1).reverse n (b.drop n) = .ok y ∧ σ' = [some (.ref a), some (.ref rd), some (.ref d), some (.ref ka), some (.ref L)] ∧ RdAt CR K H4 rd b y.2 ∧ n < y.2 ∧ Kp rd (upd H2 ka (.lst (nvs (l.reverse.map fun c => c.1)))) H4 ∧ H4 L = some (.lst ((xs ++ [x]).map V.ref)) ∧
          Paired (fun x r => RuAt CU CI (Fresh (upd (upd H2 ka (.lst (nvs (l.reverse.map fun c => c.1)))) L (.lst []))) H4 x r) (xs ++ [x]) (y.1 :: rs).reverse, ?_, ?_⟩
      · rintro σ' H4 ⟨y, x, hy, e1, e2, e3, e4, e5, e6⟩
        rw [hy] at heq'
        refine ⟨_, ?_, y.2, g', y.1 :: rs, xs ++ [x], e1, e2, e4, e5, e6, ?_, ?_, (fun z => by cases z), ?_, rfl⟩
        · have := e2.2.1
          omega
        · rw [len_drop] at hg' ⊢
          have := e2.2.1
          omega
        · rw [← heq']
          show _ = Fh.rulesFrom g' y.2 l (y.1 :: rs) ((b.drop n).drop (y.2 - n))
          rw [drop_more, show n + (y.2 - n) = y.2 by omega]
        · rw [List.length_cons]
          omega
      · refine ⟨_, rfl, .inl ⟨rfl, _, SqL.of hHL⟩, _, rfl, _, rfl, rd, ka, b, n, _, rfl, ⟨hR', ?_, hk16, hk15⟩, ?_⟩
        · obtain ⟨dxr, fsr, hir⟩ := hRa.ins
          exact sq_kp hir hK' (.inl (.inl upd_same))
        · cases hy : ruleM (l.reverse.map fun c => c.1).reverse n (b.drop n) with
          | error k =>
            rw [hy] at heq'
            exact bad k heq'.symm
          | ok y =>
            intro H4 hR4 l4 hK4 x hx
            have hLa : upd H2 ka (.lst (nvs (l.reverse.map fun c => c.1))) L = none := hL
            have kf : ∀ c o, Fresh (upd (upd H2 ka (.lst (nvs (l.reverse.map fun c => c.1)))) L (.lst [])) c → H' c = some o → H4 c = some o := fun c o hf e => hRa.fresh hK4 c o (fresh_new hf).2 e
            have hL4 : H4 L = some (.lst (xs.map V.ref)) := hRa.fresh hK4 _ _ hLa hHL
            have hb0 : 0 < b.length := by have := hR4.2.1; omega
            refine ⟨L, _, _, rfl, rfl, hL4, ?_, y, x, rfl, rfl, hR4.updL hL4 (bv_refs hb0), l4, fun c o e nn => ?_, ?_, ?_⟩
            · rw [List.length_map, hPr.length, List.length_reverse]
              have : (262146 : Nat) < sizeLine := by decide
              omega
            · have hcL : c ≠ L := fun z => by
                rw [z, hLa] at e
                cases e
              rw [upd_ne hcL]
              exact hK4 c o (hK' c o e nn) nn
            · rw [upd_same, List.map_append]
              rfl
            · rw [List.reverse_cons]
              have kL : ∀ c o, Fresh (upd (upd H2 ka (.lst (nvs (l.reverse.map fun c => c.1)))) L (.lst [])) c → H4 c = some o → upd H4 L (.lst (xs.map V.ref ++ [V.ref x])) c = some o := fun c o hf e => by
                rw [upd_ne (fresh_new hf).1]
                exact e
              refine paired_snoc (hPr.mono fun y r z => (z.keep kf).keep kL) ((hx.imp fun c hc => ?_).keep kL)
              have h1 := fresh_of hR' hK' c hc
              show upd (upd H2 ka (.lst (nvs (l.reverse.map fun c => c.1)))) L (.lst []) c = none
              rw [upd_ne (fun z => by rw [z] at hc; rw [show H' L = none from hc] at hHL; cases hHL)]
              exact h1
end
end Sg

/-! SgRt8 -/
set_option Elab.async false
set_option linter.all false
set_option maxRecDepth 100000
set_option maxHeartbeats 4000000
namespace Sg
open PySem PySem.Spec PyProof.Rows L2
theorem paired_get {α β : Type} {R : α → β → Prop} : ∀ {l : List α} {m : List β} {i : Nat} {x : α}, Paired R l m → l[i]? = some x → ∃ y, m[i]? = some y ∧ R x y
  | _, _, _, _, .nil, h => by simp at h
  | _, _, 0, _, .cons q r, h => by
    obtain rfl := Option.some.inj h
    exact ⟨_, rfl, q⟩
  | _, _, i + 1, x, .cons q r, h => by
    obtain ⟨y, h1, h2⟩ := paired_get (i := i) r (by simpa using h)
    exact ⟨y, by simpa using h1, h2⟩
/-- [.. for v in d.values()] under a lock -/
theorem lc_vals {d : Addr} {od : Obj} {kvs : List (Key × V)} {g : TG} {tt : TT} {te : TE} {vs : List Nat} {σ : L2.St} {H1 : Hp} {D : Addr} {Qd : Hp → Prop} (Pv : Nat → Hp → Prop) (h0 : Pv 0 (upd H1 D (.lst [])))
    (hl : ∀ i H, i ≤ kvs.length → Pv i H → H d = some (.frz od (.dK kvs)))
    (hs : ∀ i k x H, kvs[i]? = some (k, x) → Pv i H → g x (wipe σ vs) H fun σ2 H2 => wipe σ2 vs = wipe σ vs ∧ tt σ2 H2 fun b H3 =>
      if b = true then te σ2 H3 fun y H4 => ∃ acc, H4 D = some (.lst acc) ∧ acc.length < sizeLine ∧ Pv (i + 1) (upd H4 D (.lst (acc ++ [y]))) else Pv (i + 1) H3) (hd : ∀ H, Pv kvs.length H → Qd H) :
    ∃ W : Nat → Nat → Hp → Prop, (∃ m, W 0 m (upd H1 D (.lst []))) ∧ ∀ i m H, W i m H →
      ((Itd d od kvs).stop i H ∧ Qd H) ∨ ((Itd d od kvs).go i H ∧ ∃ Nx : Hp → Prop, (∀ H', Nx H' → ∃ m', m' < m ∧ W (i + 1) m' H') ∧ ∀ x H', (Itd d od kvs).yld i H x H' → g x (wipe σ vs) H' fun σ2 H2 => wipe σ2 vs = wipe σ vs ∧ tt σ2 H2 fun b H3 =>
        if b = true then te σ2 H3 fun y H4 => ∃ acc, H4 D = some (.lst acc) ∧ acc.length < sizeLine ∧ Nx (upd H4 D (.lst (acc ++ [y]))) else Nx H3) := by
  refine ⟨fun i m H => m = kvs.length - i ∧ i ≤ kvs.length ∧ Pv i H, ⟨_, rfl, Nat.zero_le _, h0⟩, ?_⟩
  rintro i m H ⟨rfl, hi, hp⟩
  have hdk := hl i H hi hp
  by_cases hlt : i < kvs.length
  · refine .inr ⟨⟨hdk, hlt⟩, Pv (i + 1), fun H' hp' => ⟨_, (by omega : kvs.length - (i + 1) < kvs.length - i), rfl, hlt, hp'⟩, ?_⟩
    rintro x H' ⟨rfl, k, hk⟩
    exact hs i k x _ hk hp
  · have e : i = kvs.length := by omega
    subst e
    exact .inl ⟨⟨hdk, Nat.le_refl _⟩, hd H hp⟩
def rSz (K : PySem.W.Frag) : List V → Hp → VK → Prop := fun xs H Q => ∃ p ys, xs = [.ref p] ∧ (SqL K H p ys ∨ SqT K H p ys) ∧ Q (.int ys.length) H
def litBig (i : Fh.Item) : Bool := match i.atom with
  | .lit t => decide (32 < t.length)
  | _ => false
def itemsBig (l : List Fh.Item) : Bool := decide (16 < l.length) || l.any litBig
theorem lit_not (i : Fh.Item) : (match i.atom with | .lit t => decide (t.length ≤ Fh.ATOM) | _ => true) = !litBig i := by
  unfold litBig
  cases i.atom with
  | any => rfl
  | cls k => rfl
  | lit t =>
    show decide (t.length ≤ 32) = !decide (32 < t.length)
    by_cases q : t.length ≤ 32
    · rw [decide_eq_true q, decide_eq_false (by omega)]; rfl
    · rw [decide_eq_false q, decide_eq_true (by omega)]; rfl
theorem all_not {α : Type} (l : List α) (f : α → Bool) : (l.all fun x => !f x) = !l.any f := by
  induction l with
  | nil => rfl
  | cons a r ih => rw [List.all_cons, List.any_cons, ih]; cases f a <;> rfl
theorem le_not (n m : Nat) : decide (n ≤ m) = !decide (m < n) := by
  by_cases q : n ≤ m
  · rw [decide_eq_true q, decide_eq_false (by omega)]; rfl
  · rw [decide_eq_false q, decide_eq_true (by omega)]; rfl
def clsBig (c : Cls1) : Bool := decide (256 < c.2.length)
def ruleBig (r : Fh.Rule) : Bool := itemsBig r.before || itemsBig r.behind
theorem small_is (R : Fh.Rules) : R.small = !(decide (256 < R.rules.length) || (R.classes.any clsBig || R.rules.any ruleBig)) := by
  unfold Fh.Rules.small
  have e1 : (R.classes.all fun x => decide (x.2.length ≤ Fh.RANGES)) = !R.classes.any clsBig := by
    rw [← all_not]
    congr 1
    funext x
    exact le_not _ _
  have e2 : (R.rules.all fun r => decide (r.before.length ≤ Fh.ITEMS) && (decide (r.behind.length ≤ Fh.ITEMS) && (r.before ++ r.behind).all fun i => match i.atom with | .lit t => decide (t.length ≤ Fh.ATOM) | _ => true)) = !R.rules.any ruleBig := by
    rw [← all_not]
    congr 1
    funext r
    rw [List.all_append, show (fun (i : Fh.Item) => match i.atom with | .lit t => decide (t.length ≤ Fh.ATOM) | _ => true) = fun i => !litBig i from funext lit_not, all_not, all_not]
    unfold ruleBig itemsBig
    rw [show decide (r.before.length ≤ Fh.ITEMS) = !decide (16 < r.before.length) from le_not _ _, show decide (r.behind.length ≤ Fh.ITEMS) = !decide (16 < r.behind.length) from le_not _ _]
    cases decide (16 < r.before.length) <;> cases decide (16 < r.behind.length) <;> cases r.before.any litBig <;> cases r.behind.any litBig <;> rfl
  refine (congr (congrArg and (show decide (R.rules.length ≤ Fh.RULES) = !decide (256 < R.rules.length) from le_not _ _)) (congr (congrArg and e1) e2)).trans ?_
  cases decide (256 < R.rules.length) <;> cases R.classes.any clsBig <;> cases R.rules.any ruleBig <;> rfl
section
variable {P : Program} {w : World} {K : PySem.W.Frag} {mg : Str → Option Value} {base : Heap} {CF CR CI CU CS CB : Addr}
/-! ### items_beyond_bounds -/
def spItemsB (CI : Addr) : Sp := fun vs H Q _ => ∃ (a : Addr) (l : List Fh.Item) (F : Addr → Prop), vs = [.ref a] ∧ ItsAt CI F H a l ∧ ∀ H', Same H H' → Q (.bl (itemsBig l)) H'
theorem scItemsB : FnScope ["items", "item"] ["items"] (defScope sItemsB) := ⟨rfl, rfl, rfl, by decide +kernel, rfl, by decide +kernel, by decide +kernel⟩
theorem ok_itemsB {f : Addr} {fd : FuncData} (F : Fun K "items_beyond_bounds" "items_beyond_bounds" sItemsB f fd) (T : TxI K CI) (TN : TxN mg) : FnOk P w K mg base CX0 2 f fd ["items"] (spItemsB CI) := by
  refine F.ok scItemsB (fun vs H Q E h => ?_) (fun cdv A outer s H vs Q E hr h => ?_)
  · obtain ⟨a, l, F, rfl, _⟩ := h
    rfl
  · obtain ⟨a, l, F, rfl, ⟨_, ys, hys, hP⟩, k⟩ := h
    refine ⟨_, pss_cons (ps_if (pt_cmpR op_gt (pe_callB call_len_seq (by rfl) TN.len PySem.boot_len (pa_cons (pv 0) pa_nil)) (pe_k TN.mostI (by rfl)) (nomark _)) (pss_one (ps_ret pe_bl)) pss_nil)
      (pss_one (ps_ret (pe_callB (cr_any rfl) (by rfl) TN.any PyProof.Rows.boot_any (pa_cons (pe_lc (own := [("item", 1)]) (g := gName 1) (tt := tYes) (te := tAndV (tOp rEq (tFld K (tVar 1) "kind") (tC (.int 2))) (tOp (rI0 fun i j => .bl (decide (j < i))) (tCB (rSz K) (tCons (tFld K (tVar 1) "atom") tNil)) (tC (.int 32)))) rfl scItemsB.nd (pi_list (pv 0)) (blkOk_by (N := ["items", "item"]) (sc := defScope sItemsB) (by decide +kernel))
        (fun _ _ _ _ _ => pg_name (i := 1) scItemsB.nd rfl (Or.inl rfl)) (fun _ _ _ _ _ => pts_nil)
        (fun _ _ _ _ _ => by exact (pe_and (pe_cmpR op_eq (pe_fld (pv 1) rfl) (pe_k TN.certain (by rfl)) (nomark _)) (pe_one (pe_cmpR op_gt (pe_callB call_len_seq (by rfl) TN.len PySem.boot_len (pa_cons (pe_fld (pv 1) rfl) pa_nil)) (pe_k TN.mostC (by rfl)) (nomark _)))))) pa_nil)))), ?_⟩
    have hlen : (ys.map V.ref).length = l.length := by rw [List.length_map, hP.length]
    refine ⟨_, rfl, a, _, rfl, .inl (.inl (.inl hys)), _, _, rfl, rfl, _, rfl, tst (fun q => ?_) (fun q => ?_)⟩
    · have e : itemsBig l = true := by
        unfold itemsBig
        rw [decide_eq_true (show 16 < l.length by omega)]
        rfl
      rw [← e]
      exact k H (Same.refl H)
    · have hl16 : l.length ≤ 16 := by omega
      have e : itemsBig l = l.any litBig := by
        unfold itemsBig
        rw [decide_eq_false (show ¬ 16 < l.length by omega)]
        rfl
      refine ⟨_, rfl, a, rfl, ⟨_, .inl (.inl hys)⟩, fun D hD => ?_⟩
      refine lc_list (K := K) (a := a) (xs := ys.map V.ref) (fun i H' => Same H H' ∧ H' D = some (.lst (((l.take i).map litBig).map V.bl))) ⟨same_new hD, upd_same⟩ (fun i H' _ hp => hp.1.seq (.inl (.inl hys))) (fun i x H' hx hp => ?_) (fun H' hp => ?_)
      · obtain ⟨hs, hl⟩ := hp
        rw [List.getElem?_map] at hx
        cases hy : ys[i]? with
        | none => rw [hy] at hx; cases hx
        | some y =>
          rw [hy] at hx
          obtain rfl : V.ref y = x := Option.some.inj hx
          obtain ⟨it, hit, _, dx, kk, vv, hobj, hat⟩ := paired_get hP hy
          have hobj' := hs _ _ hobj
          have hi16 : i < l.length := (List.getElem?_eq_some_iff.mp hit).1
          have done : ∀ H2 : Hp, Same H H2 → H2 D = some (.lst (((l.take i).map litBig).map V.bl)) → ∃ acc, H2 D = some (.lst acc) ∧ acc.length < sizeLine ∧ (Same H (upd H2 D (.lst (acc ++ [V.bl (litBig it)]))) ∧ upd H2 D (.lst (acc ++ [V.bl (litBig it)])) D = some (.lst (((l.take (i + 1)).map litBig).map V.bl))) := by
            intro H2 hs2 hl2
            refine ⟨_, hl2, ?_, fun c o e => ?_, ?_⟩
            · rw [List.length_map, List.length_map, List.length_take]
              have : (16 : Nat) < sizeLine := by decide
              omega
            · rw [upd_ne (ne_of_none e hD)]
              exact hs2 c o e
            · rw [upd_same, List.take_add_one, hit]
              simp
          refine ⟨rfl, iteT (B := Same H H' ∧ H' D = some (.lst (((l.take (i + 1)).map litBig).map V.bl))) ?_⟩
          refine ⟨_, rfl, y, CI, dx, _, _, rfl, hobj', T.cl, T.n1, lk_here, rfl, ?_⟩
          unfold litBig at done
          cases ha : it.atom with
          | any =>
            rw [ha] at hat done
            refine ⟨_, rfl, ?_⟩
            rw [hat.1]
            exact iteF (done H' hs hl)
          | cls n =>
            rw [ha] at hat done
            refine ⟨_, rfl, ?_⟩
            rw [hat.1]
            exact iteF (done H' hs hl)
          | lit t =>
            rw [ha] at hat done
            obtain ⟨hk, la, hv, _, hla⟩ := hat
            refine ⟨_, rfl, ?_⟩
            rw [hk]
            refine iteT ?_
            have hat2 : (itF (V.int kk) vv (V.int (it.least : Nat)) (V.int (it.most : Nat))).lookup ("atom" : Str) = some (.ref la) := by
              rw [hv]
              exact (lk_past (by decide +kernel)).trans lk_here
            refine ⟨_, rfl, y, CI, dx, _, _, rfl, hobj', T.cl, T.n2, hat2, la, _, rfl, .inl (.inl (.inl (hs _ _ hla))), _, _, rfl, rfl, ?_⟩
            have eb : decide ((32 : Int) < ((nvs t).length : Nat)) = decide (32 < t.length) := by
              rw [nvs_len]
              exact dec_eq (by omega)
            have := done H' hs hl
            dsimp only
            rw [eb]
            exact this
      · obtain ⟨hs, hl⟩ := hp
        refine ⟨D, l.map litBig, rfl, ?_, ?_⟩
        · rw [hlen, List.take_length] at hl
          exact .inl (.inl hl)
        · have e2 : (l.map litBig).any id = l.any litBig := by rw [List.any_map]; rfl
          rw [e2, ← e]
          exact k H' hs
end
end Sg

/-! SgRt9 -/
set_option Elab.async false
set_option linter.all false
set_option maxRecDepth 100000
set_option maxHeartbeats 4000000
namespace Sg
open PySem PySem.Spec PyProof.Rows L2
structure TxB (K : PySem.W.Frag) (mg : Str → Option Value) (CB : Addr) : Prop where
  g : mg "BeyondBounds" = some (.ref CB)
  x : PySem.W.excIn K CB [.type "ValueError", .type "Exception", .type "BaseException", .type "object"] "ValueError.__new__" = true
  k : PySem.W.keepIn K (.ref CB) = true
  b : PySem.W.subIn K (.ref CB) (.type "BaseException") = some true
  t : PySem.W.typeIn K (.ref CB) = some (.type "type")
section
variable {P : Program} {w : World} {K : PySem.W.Frag} {mg : Str → Option Value} {base : Heap} {CF CR CI CU CS CB : Addr}
/-! ### beyond_bounds -/
def spBeyond (CS CU CI : Addr) : Sp := fun vs H Q _ => ∃ (x : Addr) (R : Fh.Rules) (F : Addr → Prop), vs = [.ref x] ∧ RsAt CS CU CI F H x R ∧ ∀ H', Same H H' → Q (.bl (!R.small)) H'
theorem scBeyond : FnScope ["rule_set", "ranges", "rule"] ["rule_set"] (defScope sBeyond) := ⟨rfl, rfl, rfl, by decide +kernel, rfl, by decide +kernel, by decide +kernel⟩
theorem ok_beyond {f : Addr} {fd : FuncData} (F : Fun K "beyond_bounds" "beyond_bounds" sBeyond f fd) (TP : TxP K CS) (TU : TxU K CU) (TN : TxN mg) (GI : CallOk P w K mg base CX0 2 "items_beyond_bounds" ["items"] (spItemsB CI)) :
    FnOk P w K mg base CX0 3 f fd ["rule_set"] (spBeyond CS CU CI) := by
  refine F.ok scBeyond (fun vs H Q E h => ?_) (fun cdv A outer s H vs Q E hr h => ?_)
  · obtain ⟨x, R, F, rfl, _⟩ := h
    rfl
  · obtain ⟨x, R, F, rfl, ⟨dx, d, l, hx, ⟨_, kvs, hd, hC⟩, hc16, ys, hl, hP⟩, k⟩ := h
    refine ⟨_, pss_cons (ps_if (pt_cmpR op_gt (pe_callB call_len_seq (by rfl) TN.len PySem.boot_len (pa_cons (pe_fld (pv 0) rfl) pa_nil)) (pe_k TN.mostRu (by rfl)) (nomark _)) (pss_one (ps_ret pe_bl)) pss_nil)
      (pss_cons (ps_if (pt_val (pe_callB (cr_any rfl) (by rfl) TN.any PyProof.Rows.boot_any (pa_cons (pe_lock (pe_lc (own := [("ranges", 1)]) (g := gName 1) (tt := tYes) (te := tOp (rI0 fun i j => .bl (decide (j < i))) (tCB (rSz K) (tCons (tVar 1) tNil)) (tC (.int 256))) rfl scBeyond.nd (pi_values (pe_fld (pv 0) rfl)) (blkOk_by (N := ["rule_set", "ranges", "rule"]) (sc := defScope sBeyond) (by decide +kernel))
          (fun _ _ _ _ _ => pg_name (i := 1) scBeyond.nd rfl (Or.inl rfl)) (fun _ _ _ _ _ => pts_nil)
          (fun _ _ _ _ _ => by exact (pe_cmpR op_gt (pe_callB call_len_seq (by rfl) TN.len PySem.boot_len (pa_cons (pv 1) pa_nil)) (pe_k TN.mostRa (by rfl)) (nomark _))))) pa_nil))) (pss_one (ps_ret pe_bl)) pss_nil)
      (pss_one (ps_ret (pe_callB (cr_any rfl) (by rfl) TN.any PyProof.Rows.boot_any (pa_cons (pe_lc (own := [("rule", 2)]) (g := gName 2) (tt := tYes) (te := tOrV (tCall (spItemsB CI) [] E0 (tCons (tFld K (tVar 2) "before") tNil)) (tCall (spItemsB CI) [] E0 (tCons (tFld K (tVar 2) "behind") tNil))) rfl scBeyond.nd (pi_list (pe_fld (pv 0) rfl)) (blkOk_by (N := ["rule_set", "ranges", "rule"]) (sc := defScope sBeyond) (by decide +kernel))
          (fun _ _ _ _ _ => pg_name (i := 2) scBeyond.nd rfl (Or.inl rfl)) (fun _ _ _ _ _ => pts_nil)
          (fun _ _ _ _ _ => by exact (pe_or (pe_c GI hr (by rfl) pass0 (by exact (pa_cons (pe_fld (pv 2) rfl) pa_nil))) (pe_one (pe_c GI hr (by rfl) pass0 (by exact (pa_cons (pe_fld (pv 2) rfl) pa_nil))))))) pa_nil))))), ?_⟩
    have hlk : (rsF (.ref d) (.ref l)).lookup ("rules" : Str) = some (.ref l) := (lk_past (by decide +kernel)).trans lk_here
    have hlen : (ys.map V.ref).length = R.rules.length := by rw [List.length_map, hP.length]
    have hlenC : kvs.length = R.classes.length := hC.length
    rw [small_is] at k
    refine ⟨_, rfl, x, CS, dx, _, _, rfl, hx, TP.cl, TP.n2, hlk, l, _, rfl, .inl (.inl (.inl hl)), _, _, rfl, rfl, _, rfl, tst (fun q => ?_) (fun q => ?_)⟩
    · rw [decide_eq_true (show 256 < R.rules.length by omega)] at k
      exact k H (Same.refl H)
    · have hl256 : R.rules.length ≤ 256 := by omega
      rw [decide_eq_false (show ¬ 256 < R.rules.length by omega)] at k
      -- the classes, under a lock
      refine ⟨d, _, hd, trivial, fun od => ?_⟩
      have hxd : x ≠ d := ne_of hx hd (by intro z; cases z)
      have hx1 : upd H d (.frz od (.dK kvs)) x = some (.ins CS dx (rsF (.ref d) (.ref l))) := by rw [upd_ne hxd]; exact hx
      refine ⟨_, rfl, x, CS, dx, _, _, rfl, hx1, TP.cl, TP.n1, lk_here, d, od, kvs, rfl, upd_same, fun D hD => ?_⟩
      have hDd : D ≠ d := fun z => by
        rw [z, upd_same] at hD
        cases hD
      have hDH : H D = none := by
        rw [upd_ne hDd] at hD
        exact hD
      have h300 : (300 : Nat) < sizeLine := by decide
      refine lc_vals (fun i H' => (∀ c o, H c = some o → c ≠ d → H' c = some o) ∧ H' d = some (.frz od (.dK kvs)) ∧ H' D = some (.lst (((R.classes.take i).map clsBig).map V.bl))) ⟨fun c o e hc => ?_, ?_, upd_same⟩ (fun i H' _ hp => hp.2.1) (fun i k' y H' hk hp => ?_) (fun H' hp => ?_)
      · rw [upd_ne (ne_of_none e hDH), upd_ne hc]
        exact e
      · rw [upd_ne (Ne.symm hDd), upd_same]
      · obtain ⟨hs, hfd, hl'⟩ := hp
        obtain ⟨c, hc, h1, a, h2, _, ts, hts, hrg⟩ := paired_get hC hk
        obtain rfl : y = V.ref a := h2
        have had : a ≠ d := ne_of hts hd (by intro z; cases z)
        have hta := hs a _ hts had
        have haD : a ≠ D := ne_of_none hts hDH
        have hi16 : i < R.classes.length := (List.getElem?_eq_some_iff.mp hc).1
        refine ⟨rfl, iteT (B := (∀ c o, H c = some o → c ≠ d → H' c = some o) ∧ H' d = some (.frz od (.dK kvs)) ∧ H' D = some (.lst (((R.classes.take (i + 1)).map clsBig).map V.bl))) ?_⟩
        refine ⟨_, rfl, a, _, rfl, .inl (.inl (.inl hta)), _, _, rfl, rfl, ?_⟩
        have eb : decide ((256 : Int) < ((ts.map V.ref).length : Nat)) = clsBig c := by
          unfold clsBig
          rw [List.length_map, hrg.length]
          exact dec_eq (by omega)
        dsimp only
        rw [eb]
        refine ⟨_, hl', ?_, fun c' o e hc' => ?_, ?_, ?_⟩
        · rw [List.length_map, List.length_map, List.length_take]
          omega
        · rw [upd_ne (ne_of_none e hDH)]
          exact hs c' o e hc'
        · rw [upd_ne (Ne.symm hDd)]
          exact hfd
        · rw [upd_same, List.take_add_one, hc]
          simp
      · obtain ⟨hs, hfd, hl'⟩ := hp
        rw [hlenC, List.take_length] at hl'
        have s1 : Same H (upd H' d (.dK kvs)) := fun c o e => by
          by_cases hc : c = d
          · rw [hc, upd_same]
            rw [hc, hd] at e
            exact e
          · rw [upd_ne hc]
            exact hs c o e hc
        have hD1 : upd H' d (.dK kvs) D = some (.lst ((R.classes.map clsBig).map V.bl)) := by rw [upd_ne hDd]; exact hl'
        refine ⟨hfd, D, R.classes.map clsBig, rfl, .inl (.inl hD1), _, rfl, ?_⟩
        have e2 : (R.classes.map clsBig).any id = R.classes.any clsBig := by rw [List.any_map]; rfl
        rw [e2]
        cases hcb : R.classes.any clsBig with
        | true =>
          rw [hcb] at k
          exact iteT (k _ s1)
        | false =>
          rw [hcb] at k
          refine iteF ?_
          -- the rules
          have hx2 := s1 _ _ hx
          have hl2 := s1 _ _ hl
          refine ⟨_, rfl, x, CS, dx, _, _, rfl, hx2, TP.cl, TP.n2, hlk, l, rfl, ⟨_, .inl (.inl hl2)⟩, fun G hG => ?_⟩
          have hGH : H G = none := s1.free hG
          refine lc_list (K := K) (a := l) (xs := ys.map V.ref) (fun i H2 => Same H H2 ∧ H2 G = some (.lst (((R.rules.take i).map ruleBig).map V.bl))) ⟨s1.trans (same_new hG), upd_same⟩ (fun i H2 _ hp => .inl (.inl (hp.1 _ _ hl))) (fun i y H2 hy hp => ?_) (fun H2 hp => ?_)
          · obtain ⟨hs2, hg2⟩ := hp
            rw [List.getElem?_map] at hy
            cases hz : ys[i]? with
            | none => rw [hz] at hy; cases hy
            | some z =>
              rw [hz] at hy
              obtain rfl : V.ref z = y := Option.some.inj hy
              obtain ⟨r, hr1, _, dxr, lb, lh, hobj, hB, hE⟩ := paired_get hP hz
              have hi256 : i < R.rules.length := (List.getElem?_eq_some_iff.mp hr1).1
              have done : ∀ H3 : Hp, Same H2 H3 → ∃ acc, H3 G = some (.lst acc) ∧ acc.length < sizeLine ∧ (Same H (upd H3 G (.lst (acc ++ [V.bl (ruleBig r)]))) ∧ upd H3 G (.lst (acc ++ [V.bl (ruleBig r)])) G = some (.lst (((R.rules.take (i + 1)).map ruleBig).map V.bl))) := by
                intro H3 h23
                refine ⟨_, h23 _ _ hg2, ?_, fun c o e => ?_, ?_⟩
                · rw [List.length_map, List.length_map, List.length_take]
                  omega
                · rw [upd_ne (ne_of_none e hGH)]
                  exact h23 c o (hs2 c o e)
                · rw [upd_same, List.take_add_one, hr1]
                  simp
              refine ⟨rfl, iteT (B := Same H H2 ∧ H2 G = some (.lst (((R.rules.take (i + 1)).map ruleBig).map V.bl))) ?_⟩
              have lkB : (ruF (.bl r.cut) (.bl r.start) (.ref lb) (.ref lh) (.bl r.halt_)).lookup ("before" : Str) = some (.ref lb) := (lk_past (by decide +kernel)).trans ((lk_past (by decide +kernel)).trans lk_here)
              have lkE : (ruF (.bl r.cut) (.bl r.start) (.ref lb) (.ref lh) (.bl r.halt_)).lookup ("behind" : Str) = some (.ref lh) := (lk_past (by decide +kernel)).trans ((lk_past (by decide +kernel)).trans ((lk_past (by decide +kernel)).trans lk_here))
              have hobj2 := hs2 _ _ hobj
              refine ⟨_, rfl, z, CU, dxr, _, _, rfl, hobj2, TU.cl, TU.n3, lkB, lb, r.before, _, rfl, hB.keep (fun c o _ e => hs2 c o e), fun H3 h23 => ⟨_, rfl, ?_⟩⟩
              unfold ruleBig at done
              cases hb1 : itemsBig r.before with
              | true =>
                rw [hb1] at done
                exact iteT (done H3 h23)
              | false =>
                rw [hb1] at done
                refine iteF ?_
                refine ⟨_, rfl, z, CU, dxr, _, _, rfl, h23 _ _ hobj2, TU.cl, TU.n4, lkE, lh, r.behind, _, rfl, hE.keep (fun c o _ e => h23 c o (hs2 c o e)), fun H4 h34 => ?_⟩
                exact done H4 (h23.trans h34)
          · obtain ⟨hs2, hg2⟩ := hp
            refine ⟨G, R.rules.map ruleBig, rfl, ?_, ?_⟩
            · rw [hlen, List.take_length] at hg2
              exact .inl (.inl hg2)
            · have e3 : (R.rules.map ruleBig).any id = R.rules.any ruleBig := by rw [List.any_map]; rfl
              rw [e3]
              have := k H2 hs2
              simpa using this
/-! ### checked_rules -/
def spChecked (CF CI CU CS CB : Addr) (K : PySem.W.Frag) : Sp := fun vs H Q E => ∃ (a : Addr) (b : Fh.Bytes), vs = [.ref a] ∧ SqL K H a (bv b) ∧ b.length ≤ 262144 ∧
  (∀ k, Fh.rulesRead b = .error k → Bad CF E k) ∧ ∀ R, Fh.rulesRead b = .ok R → (R.small = true → ∀ (H' : Hp) (x : Addr), Same H H' → RsAt CS CU CI (Fresh H) H' x R → Q (.ref x) H') ∧ (R.small = false → Gone CB (-6) E)
theorem scChecked : FnScope ["text", "rule_set"] ["text"] (defScope sChecked) := ⟨rfl, rfl, rfl, by decide +kernel, rfl, by decide +kernel, by decide +kernel⟩
theorem RsAt.keep {F : Addr → Prop} {H H' : Hp} {x : Addr} {R : Fh.Rules} (h : RsAt CS CU CI F H x R) (s : Same H H') : RsAt CS CU CI F H' x R := by
  obtain ⟨dx, d, l, h1, h2, h3, xs, h4, h5⟩ := h
  exact ⟨dx, d, l, s _ _ h1, h2.keep fun c o _ e => s c o e, h3, xs, s _ _ h4, h5.mono fun _ _ z => z.keep fun c o _ e => s c o e⟩
theorem ok_checked {f : Addr} {fd : FuncData} (F : Fun K "checked_rules" "checked_rules" sChecked f fd) (TB : GoneOk P w K mg base "BeyondBounds" CB (-6)) (GR : CallOk P w K mg base (L2N.CX P w) 10 "read_rules" ["text"] (spRules CF CI CU CS K)) (GB : CallOk P w K mg base CX0 3 "beyond_bounds" ["rule_set"] (spBeyond CS CU CI)) :
    FnOk P w K mg base (L2N.CX P w) 11 f fd ["text"] (spChecked CF CI CU CS CB K) := by
  refine okN F scChecked (fun vs H Q E h => ?_) (fun cdv A outer s H vs Q E hr h => ?_)
  · obtain ⟨a, b, rfl, _⟩ := h
    rfl
  · obtain ⟨a, b, rfl, hS, hb, bad, good⟩ := h
    have hr2 : Room 3 (A.deeper (envOfC (Str.ofString "checked_rules") (defScope sChecked) s.heap.objs.size f cdv)) := hr.mono (by decide)
    refine ⟨_, pss_cons (ps_set (i := 1) scChecked.nd rfl (Or.inl rfl) (pe_c GR hr (by rfl) (passN rfl rfl rfl rfl) (by exact (pa_cons (pv 0) pa_nil))))
      (pss_cons (ps_if (pt_val (pe_c GB hr2 (by rfl) pass0 (by exact (pa_cons (pv 1) pa_nil)))) (pss_one (L2N.ps_raise rfl (L2N.takes_of rfl rfl rfl rfl) (pmk_goneN TB hr2 (by rfl)))) pss_nil)
      (pss_one (ps_ret (pv 1)))), ?_⟩
    refine ⟨_, rfl, a, b, rfl, hS, hb, bad, fun R hR H1 x s1 hx => ?_⟩
    obtain ⟨g1, g2⟩ := good R hR
    refine ⟨_, rfl, x, R, _, rfl, hx, fun H2 s2 => ⟨_, rfl, ?_⟩⟩
    cases hs : R.small with
    | true => exact iteF ⟨_, rfl, g1 hs H2 x (s1.trans s2) (hx.keep s2)⟩
    | false => exact iteT (g2 hs)
end
end Sg

/-! SgTry -/
set_option Elab.async false
set_option linter.all false
set_option maxRecDepth 100000
set_option maxHeartbeats 4000000
/-! ### try with several clauses, each with or without a name -/
namespace Sg
open PySem PySem.Spec PyProof.Rows L2
abbrev Suite := Addr → Value → Option Addr → TS
/-- behind a clause's suite its name is unbound -/
def endsOf (D : Ends) : Option Nat → Ends
  | none => D
  | some i => { nx := fun σ H => D.nx (σ.set i none) H, rt := D.rt, bk := fun σ H => D.bk (σ.set i none) H, ct := fun σ H => D.ct (σ.set i none) H }
def slotsOf (σ : L2.St) (a : Addr) : Option Nat → L2.St
  | none => σ
  | some i => σ.set i (some (.ref a))
/-- what the clauses wish of what the body raises -/
def wMix (K : PySem.W.Frag) (Wout : WX) (D : Ends) : List (Value × Option Nat × Suite) → WX
  | [] => Wout
  | c :: rest => fun cls d σ H => ∃ yes : Bool, PySem.W.exmOne K cls c.1 = some yes ∧ (yes = true → ∀ a, H a = none → c.2.2 a cls d (endsOf D c.2.1) (slotsOf σ a c.2.1) H) ∧ (yes = false → wMix K Wout D rest cls d σ H)
/-- a clause's name and its slot -/
def NamedAt (X : Cx) : Option Str → Option Nat → Prop
  | none, none => True
  | some n, some i => X.N.Nodup ∧ X.N[i]? = some n ∧ X.env.kindOf n = some .local
  | _, _ => False
inductive Clauses (X : Cx) : List ExceptHandler → List (Value × Option Nat × Suite) → Prop
  | nil : Clauses X [] []
  | cons {x : Str} {n : Option Str} {c : Value} {i : Option Nat} {ts : Suite} {st : Stmt} {sts : List Stmt} {p q : Pos} {hs : List ExceptHandler} {l : List (Value × Option Nat × Suite)} (hname : Names X x c) (hn : NamedAt X n i)
      (hsuite : ∀ (a : Addr) (oe : Obj) (cls : Value) (d : Option Addr) (pn : List (Addr × Obj)), Zc cls d oe → (∃ vs, oe.data = .fields vs) → PSs (X.suite a ((a, oe) :: pn)) (st :: sts) (ts a cls d)) (more : Clauses X hs l) :
      Clauses X (.ExceptHandler (some (.Name x p)) n (st :: sts) q :: hs) ((c, i, ts) :: l)
section
variable {X : Cx} {body : List Stmt} {hd : ExceptHandler} {hs : List ExceptHandler} {l : List (Value × Option Nat × Suite)} {pos : Pos} {tb : WX → TS} {Wout : WX}
theorem ps_try_mix (hst : X.stack = X.env :: X.outer) (hfr : X.env.frame = some X.env.locals) (tk : Takes X Wout)
    (hb : ∀ (W : WX) (pn : List (Addr × Obj)) (xe : Value → Shared → Prop), Takes (X.tr pn xe) W → PassesOwn (model X.prog X.w) X.A X.env xe → PSs (X.tr pn xe) body (tb W)) (hc : Clauses X (hd :: hs) l) :
    PS X (.Try body (hd :: hs) [] [] pos) (fun D σ H => tb (wMix X.K Wout D l) D σ H) := by
  refine ⟨fun pins s σ H D I want => ?_⟩
  have okX := I.ok
  have frames : X.A.frames = some (X.env :: X.outer) := okX.frames.trans (congrArg some hst)
  refine wpAny_Try_except (wpAny_mono ((hb (wMix X.K Wout D l) (X.pn ++ pins) (fun e t => wpAny (model X.prog X.w) X.A (noteFrame e X.env) (fun _ t2 => wpAny (model X.prog X.w) X.A (setFlight e none) (fun _ t3 =>
    wpAny (model X.prog X.w) X.A (handleBy e X.env (hd :: hs)) (SP X pins D) X.xe t3) X.xe t2) X.xe t) (fun u t air => ?_) PassesOwn.looking).run [] s σ H D (I.toTry _) want) (fun fl t h => ?_) (fun _ _ h => h))
  · obtain ⟨a, B, sI, pins0, σ0, H0, cls, d, rfl, J0, ground, up0, sky, noA, os, bare, wish⟩ := air
    have J : Inv X pins σ0 H0 sI := J0.ofTry okX
    rw [hst] at sky
    show wpAny (model X.prog X.w) X.A (noteFrame (.ref a) X.env) _ _ _
    refine Sky.land Zc.steady frames hfr sky fun h3 fly up3 => ?_
    have J3 : Inv X pins σ0 H0 { t with heap := h3 } := J.landed ground fly.1 (up0.trans up3) os bare
    obtain ⟨ob, fv, hob, hz, hdat⟩ := fly.there
    have notIn : a ∉ frs (X.env :: X.outer) := fun hm => by
      obtain ⟨_, ob', eob, no⟩ := fly.2.2.1.mem hm
      rw [hob] at eob
      cases eob
      exact no _ hdat
    have neL : a ≠ X.env.locals := fun z => notIn (List.mem_filterMap.mpr ⟨X.env, List.mem_cons_self, hfr.trans (congrArg some z.symm)⟩)
    have neF : a ∉ X.fs := fun hm => by
      obtain ⟨e, he, q⟩ := List.mem_filterMap.mp hm
      exact notIn (List.mem_filterMap.mpr ⟨e, List.mem_cons_of_mem _ he, q⟩)
    have S3 := J3.suite hob hdat noA neL neF
    have go : ∀ {hs' : List ExceptHandler} {l' : List (Value × Option Nat × Suite)}, Clauses X hs' l' → wMix X.K Wout D l' cls d σ0 H0 →
        wpAny (model X.prog X.w) X.A (handleBy (.ref a) X.env hs') (SP X pins D) X.xe { t with heap := h3 } := by
      intro hs' l' hk
      induction hk with
      | nil =>
        intro wish
        refine wpAny_handleBy_nil ?_
        obtain ⟨_, _, _, oe, vs, Tb, _, _, he, _, hdd, hv1, _⟩ := id fly
        unfold PySem.passOn
        refine wpAny_bind (wpAny_field he hdd hv1 ?_)
        have hne : ¬ ((Value.ref Tb == Value.none) = true) := by simp
        rw [if_neg hne]
        have fin : wpAny (model X.prog X.w) X.A (setFlight (.ref a) X.env.frame) (fun _ t4 => wpAny (model X.prog X.w) X.A (throw (.ref a) : Sem Flow) (SP X pins D) X.xe t4) X.xe { t with heap := h3 } := by
          rw [hfr]
          refine HandSPX.setFlight_upZ fly fun h4 held up4 => wpAny_throw (tk _ _ ⟨a, B, sI, pins, σ0, H0, cls, d, rfl, J, ground, (up0.trans up3).trans up4, .inr (.inr (by rw [hst]; exact held)), noA, os, bare, wish⟩)
        first
          | exact wpAny_bind (wpAny_pure (wpAny_bind fin))
          | exact wpAny_bind fin
      | @cons x n c i ts st sts p q hs2 l2 hname hn hsuite more ih =>
        intro wish
        obtain ⟨yes, hex, hyes, hno⟩ := wish
        refine wpAny_handleBy_cons (codeAny_handlers_test ?_) (by intro z; cases z)
        have LM := PySem.W.exm_one (M := model X.prog X.w) J3.kIn (show PySem.W.Looks (model X.prog X.w) h3 (typeOf (.ref a)) cls from fun A Q E s k q => wpAny_typeOf_ref (k _ _ hob) (by rw [hz.1]; exact q)) hex
        have named : ∀ {Q E : Value → Shared → Prop}, Q c { t with heap := h3 } → wpAny (model X.prog X.w) (X.A.mark (some (.ref a))) (eval (.Name x p) X.env) Q E { t with heap := h3 } := fun {Q E} want => by
          obtain ⟨hgl, hdbg, hm | ⟨hm, hbt, hnn⟩⟩ := hname
          · exact ld_glob (X := X.suite a ((a, ob) :: (X.pn ++ pins))) S3 hgl hm want hdbg
          · exact ld_blt (X := X.suite a ((a, ob) :: (X.pn ++ pins))) S3 hgl hm hbt want hnn hdbg
        refine named (LM.here ?_)
        cases yes with
        | false =>
          show wpAny _ X.A (handleBy (.ref a) X.env hs2) _ _ _
          exact ih (hno rfl)
        | true =>
          match n, i, hn with
          | none, none, _ =>
            refine codeAny_handlers_suite (HandSPX.lands_againZ fly fun h4 fly4 up4 => ?_)
            have J4 : Inv X pins σ0 H0 { t with heap := h4 } := J.landed ground fly4.1 ((up0.trans up3).trans up4) os bare
            obtain ⟨ob4, fv4, hob4, hz4, hdat4⟩ := fly4.there
            have S4 := J4.suite hob4 hdat4 noA neL neF
            refine wpAny_mono ((hsuite a ob4 cls d (X.pn ++ pins) hz4 ⟨_, hdat4⟩).run [] _ _ H0 _ S4 (hyes rfl a noA)) (fun fl t6 r => ?_) (fun _ _ z => False.elim z)
            cases fl with
            | ret u =>
              obtain ⟨v6, σ6, H6, S6, r6, q6⟩ := r
              exact ⟨v6, σ6, H6, S6.unsuite okX, r6, q6⟩
            | next =>
              obtain ⟨σ6, H6, S6, q6⟩ := r
              exact ⟨σ6, H6, S6.unsuite okX, q6⟩
            | brk =>
              obtain ⟨σ6, H6, S6, q6⟩ := r
              exact ⟨σ6, H6, S6.unsuite okX, q6⟩
            | cont =>
              obtain ⟨σ6, H6, S6, q6⟩ := r
              exact ⟨σ6, H6, S6.unsuite okX, q6⟩
          | some n, some i, ⟨hN, hi, hln⟩ =>
            refine codeAny_handlers_suite_as (HandSPX.lands_againZ fly fun h4 fly4 up4 => ?_)
            have J4 : Inv X pins σ0 H0 { t with heap := h4 } := J.landed ground fly4.1 ((up0.trans up3).trans up4) os bare
            obtain ⟨ob4, fv4, hob4, hz4, hdat4⟩ := fly4.there
            have S4 := J4.suite hob4 hdat4 noA neL neF
            refine store_ok (X := X.suite a ((a, ob4) :: (X.pn ++ pins))) (v := .ref a) S4 hN hi (.inl hln) rfl (fun t5 S5 => ?_) (.inr hln)
            refine wpAny_mono ((hsuite a ob4 cls d (X.pn ++ pins) hz4 ⟨_, hdat4⟩).run [] t5 _ H0 _ S5 (hyes rfl a noA)) (fun fl t6 r => ?_) (fun _ _ z => False.elim z)
            have close : ∀ {σ6 : L2.St} {H6 : Hp} {Q : Shared → Prop}, Inv (X.suite a ((a, ob4) :: (X.pn ++ pins))) [] σ6 H6 t6 → (∀ t7, Inv X pins (σ6.set i none) H6 t7 → Q t7) →
                wpAny (model X.prog X.w) X.A (do bindName X.env n .none; unbindBehindTheSuite X.env n q) (fun _ t7 => Q t7) X.xe t6 := fun S6 want => gone_ok (S6.unsuite okX) hN hi hln want
            cases fl with
            | ret u =>
              obtain ⟨v6, σ6, H6, S6, r6, q6⟩ := r
              exact close S6 fun t7 J7 => ⟨v6, _, H6, J7, r6, q6⟩
            | next =>
              obtain ⟨σ6, H6, S6, q6⟩ := r
              exact close S6 fun t7 J7 => ⟨_, H6, J7, q6⟩
            | brk =>
              obtain ⟨σ6, H6, S6, q6⟩ := r
              exact close S6 fun t7 J7 => ⟨_, H6, J7, q6⟩
            | cont =>
              obtain ⟨σ6, H6, S6, q6⟩ := r
              exact close S6 fun t7 J7 => ⟨_, H6, J7, q6⟩
    exact go hc wish
  · cases fl with
    | ret u =>
      obtain ⟨v', σ', H', J', r, q⟩ := h
      exact ⟨v', σ', H', J'.ofTry okX, r, q⟩
    | next =>
      obtain ⟨σ', H', J', q⟩ := h
      exact wpAny_execs_nil ⟨σ', H', J'.ofTry okX, q⟩
    | brk =>
      obtain ⟨σ', H', J', q⟩ := h
      exact ⟨σ', H', J'.ofTry okX, q⟩
    | cont =>
      obtain ⟨σ', H', J', q⟩ := h
      exact ⟨σ', H', J'.ofTry okX, q⟩
end
end Sg

/-! SgAs -/
set_option Elab.async false
set_option linter.all false
set_option maxRecDepth 100000
set_option maxHeartbeats 4000000
/-! ### except X as n: a suite that raises out of its def -/
namespace Sg
open PySem PySem.Spec PyProof.Rows L2 L2H HotX
/-- the context of such a suite -/
abbrev suiteY (X : Cx) (a : Addr) (pn : List (Addr × Obj)) (air : Value → Shared → Prop) : Cx := { X with A := X.A.mark (some (.ref a)), calm := false, pn := pn, xe := air }
/-- what the clause wishes -/
def wAsX (K : PySem.W.Frag) (c : Value) (i : Nat) (ts : Suite) (E : XK) (D : Ends) : WX := fun cls d σ H => ∃ yes : Bool, PySem.W.exmOne K cls c = some yes ∧ (yes = true → ∀ a, H a = none → ts a cls d (endsOf D (some i)) (σ.set i (some (.ref a))) H) ∧ (yes = false → E cls d H)
theorem heldN {B h : Heap} {l : List Env} {a L : Addr} {cls : Value} {d : Option Addr} (x : HandSPX.HeldZ B l a (L2N.Zn cls d) L h) : HandSPX.HeldZ B l a (Zc cls d) L h := by
  obtain ⟨h1, h2, h3, oe, vs, Tb, oT, ts, e1, e2, e3⟩ := x
  exact ⟨h1, h2, h3, oe, vs, Tb, oT, ts, e1, e2.zc, e3⟩
theorem heldGone {B h h' : Heap} {env : Env} {outer : List Env} {a L : Addr} {Z : Obj → Prop} {m m' : Str → Option Value} (hh : HandSPX.HeldZ B (env :: outer) a Z L h) (hf : env.frame = some L) (ns : h.Ns L m) (ns' : h'.Ns L m') (sb : Heap.SameBut L h h') : HandSPX.HeldZ B (env :: outer) a Z L h' := by
  obtain ⟨k1, k2, k3, oe, vs, Tb, oT, ts, e1, e2, e3, e4, e5, e6, e7, e8, e9⟩ := hh
  have noL : B.get? L = none := by
    obtain ⟨_, ⟨L1, _, f1, f2, _⟩, _⟩ := id k3
    rw [hf] at f1
    rw [Option.some.inj f1]
    exact f2
  obtain ⟨oL, esL, epL, gL, dL, _⟩ := id ns
  have plain : ∀ {b : Addr} {o : Obj} {fv : Array Value}, h.get? b = some o → o.data = .fields fv → b ≠ L := fun g1 g2 z => by
    rw [z, gL] at g1
    rw [← Option.some.inj g1, dL] at g2
    cases g2
  exact ⟨fun b o g => (sb.2 b fun z => by rw [z, noL] at g; cases g).trans (k1 b o g), k2, Heap.FunFrames.sameBut sb ns' k3, oe, vs, Tb, oT, ts, (sb.2 a (plain e1 e3)).trans e1, e2, e3, e4, e5, e6, (sb.2 Tb (plain e7 e8)).trans e7, e8, e9⟩
/-- looked at, it is held by the frame -/
theorem noteZ {M : Model} {A : Around} {E : Value → Shared → Prop} {B : Heap} {env : Env} {outer : List Env} {L a : Addr} {cls : Value} {d : Option Addr} {s : Shared} {Q : Unit → Shared → Prop} (fr : A.frames = some (env :: outer)) (hf : env.frame = some L) (sky : Sky B (env :: outer) a (Zc cls d) L s.heap)
    (want : ∀ h', HandSPX.HeldZ B (env :: outer) a (Zc cls d) L h' → s.heap.UpToSlots h' → Q () { s with heap := h' }) : wpAny M A (noteFrame (.ref a) env) Q E s := by
  rcases sky with ⟨k1, k2, k3, oe, vs, e1, e2, e3, e4⟩ | fly | held
  · exact HandSPX.look_newZ Zc.steady fr k3 hf e1 k1 k2 e3 e4 e2 want
  · exact HandSPX.looks_onZ Zc.steady fr hf fly want
  · exact HandSPX.againZ hf held.2.2.2 (want s.heap held (Heap.UpToSlots.refl _))
section
variable {X : Cx} {body : List Stmt} {pos p q : Pos} {tb : WX → TS} {E : XK} {E₁ : Value → Shared → Prop} {x n : Str} {c : Value} {i : Nat} {ts : Suite} {st : Stmt} {sts : List Stmt}
theorem ps_try_asX (hst : X.stack = X.env :: X.outer) (hfr : X.env.frame = some X.env.locals) (hex : X.ex = [])
    (hx : X.xe = fun e s' => wpAny (model X.prog X.w) X.A (leaving X.env e) (fun _ s'' => L2.CX X.prog X.w X.outer X.H_0 X.s_0 E e s'') E₁ s') (hname : Names X x c) (hN : X.N.Nodup) (hi : X.N[i]? = some n) (hln : X.env.kindOf n = some .local)
    (hb : ∀ (W : WX) (pn : List (Addr × Obj)) (xe : Value → Shared → Prop), L2N.Takes (X.tr pn xe) W → PSs (X.tr pn xe) body (tb W))
    (hsuite : ∀ (a : Addr) (oe : Obj) (cls : Value) (d : Option Addr) (pn : List (Addr × Obj)) (air : Value → Shared → Prop), L2N.Zn cls d oe → (∃ vs, oe.data = .fields vs) → L2.Takes (suiteY X a ((a, oe) :: pn) air) (fun cls d _ H => E cls d H) → HotC (suiteY X a ((a, oe) :: pn) air) →
      PSs (suiteY X a ((a, oe) :: pn) air) (st :: sts) (ts a cls d)) :
    PS X (.Try body [.ExceptHandler (some (.Name x p)) (some n) (st :: sts) q] [] [] pos) (fun D σ H => tb (wAsX X.K c i ts E D) D σ H) := by
  refine ⟨fun pins s σ H D I want => ?_⟩
  have okX := I.ok
  have tk : L2.Takes X (fun cls d _ H => E cls d H) := L2.takes_of hst hfr hex hx
  have hpa : ∀ hd : Option Value, PassesOwnAt (model X.prog X.w) (X.A.mark hd) X.A X.env X.xe := fun hd => passesAt_of hx hd
  have frames : X.A.frames = some (X.env :: X.outer) := okX.frames.trans (congrArg some hst)
  refine wpAny_Try_except (wpAny_mono ((hb (wAsX X.K c i ts E D) (X.pn ++ pins) (fun e t => wpAny (model X.prog X.w) X.A (noteFrame e X.env) (fun _ t2 => wpAny (model X.prog X.w) X.A (setFlight e none) (fun _ t3 =>
    wpAny (model X.prog X.w) X.A (handleBy e X.env [.ExceptHandler (some (.Name x p)) (some n) (st :: sts) q]) (SP X pins D) X.xe t3) X.xe t2) X.xe t) (fun u t air => ?_)).run [] s σ H D (I.toTry _) want) (fun fl t h => ?_) (fun _ _ h => h))
  · obtain ⟨a, B, sI, pins0, σ0, H0, cls, d, rfl, J0, ground, up0, sky, noA, os, bare, wish⟩ := air
    have J : Inv X pins σ0 H0 sI := J0.ofTry okX
    have sky : Sky B X.stack a (L2N.Zn cls d) X.env.locals t.heap := sky
    rw [hst] at sky
    show wpAny (model X.prog X.w) X.A (noteFrame (.ref a) X.env) _ _ _
    refine L2N.Sky.land L2N.Zn.steady frames hfr sky fun h3 fly up3 => ?_
    have J3 : Inv X pins σ0 H0 { t with heap := h3 } := J.landed ground fly.1 (up0.trans up3) os bare
    obtain ⟨ob, fv, hob, hz, hdat⟩ := fly.there
    have notIn : a ∉ frs (X.env :: X.outer) := fun hm => by
      obtain ⟨_, ob', eob, no⟩ := fly.2.2.1.mem hm
      rw [hob] at eob
      cases eob
      exact no _ hdat
    have neL : a ≠ X.env.locals := fun z => notIn (List.mem_filterMap.mpr ⟨X.env, List.mem_cons_self, hfr.trans (congrArg some z.symm)⟩)
    have neF : a ∉ X.fs := fun hm => by
      obtain ⟨e, he, q⟩ := List.mem_filterMap.mp hm
      exact notIn (List.mem_filterMap.mpr ⟨e, List.mem_cons_of_mem _ he, q⟩)
    have S3 := J3.suite hob hdat noA neL neF
    obtain ⟨yes, hexm, hyes, hno⟩ := wish
    refine wpAny_handleBy_cons (codeAny_handlers_test ?_) (by intro z; cases z)
    have LM := PySem.W.exm_one (M := model X.prog X.w) J3.kIn (show PySem.W.Looks (model X.prog X.w) h3 (typeOf (.ref a)) cls from fun A Q E s k q => wpAny_typeOf_ref (k _ _ hob) (by rw [hz.1]; exact q)) hexm
    have named : ∀ {Q E : Value → Shared → Prop}, Q c { t with heap := h3 } → wpAny (model X.prog X.w) (X.A.mark (some (.ref a))) (eval (.Name x p) X.env) Q E { t with heap := h3 } := fun {Q E} want => by
      obtain ⟨hgl, hdbg, hm | ⟨hm, hbt, hnn⟩⟩ := hname
      · exact ld_glob (X := X.suite a ((a, ob) :: (X.pn ++ pins))) S3 hgl hm want hdbg
      · exact ld_blt (X := X.suite a ((a, ob) :: (X.pn ++ pins))) S3 hgl hm hbt want hnn hdbg
    refine named (LM.here ?_)
    cases yes with
    | false =>
      show wpAny _ X.A (handleBy (.ref a) X.env []) _ _ _
      refine wpAny_handleBy_nil ?_
      obtain ⟨_, _, _, oe, vs, Tb, _, _, he, _, hdd, hv1, _⟩ := id fly
      unfold PySem.passOn
      refine wpAny_bind (wpAny_field he hdd hv1 ?_)
      have hne : ¬ ((Value.ref Tb == Value.none) = true) := by simp
      rw [if_neg hne]
      have fin : wpAny (model X.prog X.w) X.A (setFlight (.ref a) X.env.frame) (fun _ t4 => wpAny (model X.prog X.w) X.A (throw (.ref a) : Sem Flow) (SP X pins D) X.xe t4) X.xe { t with heap := h3 } := by
        rw [hfr]
        refine HandSPX.setFlight_upZ fly fun h4 held up4 => wpAny_throw (tk _ _ ⟨a, B, sI, pins, σ0, H0, cls, d, rfl, J, ground, (up0.trans up3).trans up4, .inr (.inr (by rw [hst]; exact heldN held)), noA, os, bare, hno rfl⟩)
      first
        | exact wpAny_bind (wpAny_pure (wpAny_bind fin))
        | exact wpAny_bind fin
    | true =>
      refine codeAny_handlers_suite_as (HandSPX.lands_againZ fly fun h4 fly4 up4 => ?_)
      have J4 : Inv X pins σ0 H0 { t with heap := h4 } := J.landed ground fly4.1 ((up0.trans up3).trans up4) os bare
      obtain ⟨ob4, fv4, hob4, hz4, hdat4⟩ := fly4.there
      have S4 := J4.suite hob4 hdat4 noA neL neF
      have hot : ∀ air : Value → Shared → Prop, HotC (suiteY X a ((a, ob4) :: (X.pn ++ pins)) air) := fun air => ⟨(a, ob4), ⟨rfl, fv4, hdat4, hz4.2.2 fv4 hdat4⟩, List.mem_cons_self⟩
      refine store_ok (X := X.suite a ((a, ob4) :: (X.pn ++ pins))) (v := .ref a) S4 hN hi (.inl hln) rfl (fun t5 S5 => ?_) (.inr hln)
      refine wpAny_mono ((hsuite a ob4 cls d (X.pn ++ pins) _ hz4 ⟨_, hdat4⟩ (fun u2 t6 x2 => ?_) (hot _)).run [] t5 _ H0 _ (Inv.wish (X := X.suite a ((a, ob4) :: (X.pn ++ pins))) S5 _) (hyes rfl a noA)) (fun fl t6 r => ?_) (fun _ _ z => z)
      · obtain ⟨a2, B2, sI2, pn2, σ2, H2, cls2, d2, rfl, I2, nb2, up2, sky2, na2, os2, bare2, wish2⟩ := x2
        have K2 : Inv X pins σ2 H2 sI2 := Inv.unsuite (X := X) (a := a) (q := (a, ob4)) (pn' := pn2) (Inv.wish I2 fun _ _ => False) okX
        have sky2 : Sky B2 X.stack a2 (Zc cls2 d2) X.env.locals t6.heap := sky2
        rw [hst] at sky2
        show wpAny (model X.prog X.w) (X.A.mark (some (.ref a))) (noteFrame (.ref a2) X.env) _ _ _
        refine noteZ frames hfr sky2 fun h7 held7 up7 => ?_
        have J7 : Inv X pins σ2 H2 { t6 with heap := h7 } := K2.landed nb2 held7.1 (up2.trans up7) os2 bare2
        obtain ⟨m7, ns7, _⟩ := J7.loc
        refine wpAny_nameGoes hln ns7 (by rw [okX.kind]; rfl) fun h8 m8 ns8 sb8 => ?_
        have held8 := heldGone held7 hfr ns7 ns8 sb8
        obtain ⟨_, _, _, oe2, vs2, Tb2, _, _, he2, _, hdd2, hv2, _⟩ := id held8
        unfold PySem.passOn
        refine wpAny_bind (wpAny_field he2 hdd2 hv2 ?_)
        have hne : ¬ ((Value.ref Tb2 == Value.none) = true) := by simp
        rw [if_neg hne, hfr]
        have fin : ∀ h9, HandSPX.HeldZ B2 (X.env :: X.outer) a2 (Zc cls2 d2) X.env.locals h9 → h8.UpToSlots h9 → X.xe (.ref a2) { t6 with heap := h9, toks := t6.toks + 1 } := fun h9 held9 up9 => by
          rw [hx]
          refine HandSPX.leaves_heldZ hfr held9 fun h10 fly10 up10 => ?_
          have past : ∀ {b : Addr} {o : Obj}, X.s_0.heap.get? b = some o → b ≠ X.env.locals := fun g => Nat.ne_of_lt (Nat.lt_of_lt_of_le (Heap.lt_size g) okX.above)
          have noEx : ∀ b, b ∉ X.ex := fun b hb => by
            rw [hex] at hb
            cases hb
          have outside : ∀ b o, X.s_0.heap.get? b = some o → b ∉ X.fs → b ∉ frs X.stack := fun b o g hb hm => by
            rcases List.mem_cons.mp (K2.stkSub b hm) with z | z
            · exact past g z
            · exact hb z
          refine ⟨a2, B2, H2, cls2, d2, rfl, fly10, K2.inGround nb2, ⟨fun b o g hn hb => nb2 b o (K2.base.keep b o g hn hb (noEx b)) (outside b o g hb), fun b o g hb => ?_, fun b o g hn => K2.base.free b o g hn (noEx b), fun b o g hb => ?_, K2.base.tups, K2.base.frzs, K2.base.tbls⟩, na2, os2.trans K2.os, bare2, wish2⟩
          · obtain ⟨_, o0, g0, nf⟩ := K2.ok.funs.mem hb
            rw [g] at g0
            cases g0
            obtain ⟨sl1, g1⟩ := K2.base.slot b o g (K2.ok.frf b hb) hb (noEx b)
            obtain ⟨sl2, g2⟩ := up2 b _ g1 nf
            obtain ⟨sl3, g3⟩ := up7 b _ g2 nf
            have g4 := (sb8.2 b (past g)).trans g3
            obtain ⟨sl5, g5⟩ := up9 b _ g4 nf
            obtain ⟨sl6, g6⟩ := up10 b _ g5 nf
            exact ⟨sl6, g6⟩
          · obtain ⟨o', g1⟩ := K2.base.there b o g (noEx b)
            exact ⟨o', nb2 b o' g1 (outside b o g hb)⟩
        have go : wpAny (model X.prog X.w) (X.A.mark (some (.ref a))) (setFlight (.ref a2) (some X.env.locals)) (fun _ t9 => X.xe (.ref a2) t9) (fun _ _ => False) { t6 with heap := h8, toks := t6.toks + 1 } := HandSPX.setFlight_onZ held8 fun h9 held9 up9 => fin h9 held9 up9
        first
          | exact wpAny_bind (wpAny_pure (wpAny_bind (wpAny_mono go (fun _ t9 z => wpAny_throw (hpa _ _ _ z)) fun _ _ z => z.elim)))
          | exact wpAny_bind (wpAny_mono go (fun _ t9 z => wpAny_throw (hpa _ _ _ z)) fun _ _ z => z.elim)
      · have close : ∀ {σ6 : L2.St} {H6 : Hp} {air : Value → Shared → Prop} {Q : Shared → Prop}, Inv (suiteY X a ((a, ob4) :: (X.pn ++ pins)) air) [] σ6 H6 t6 → (∀ t7, Inv X pins (σ6.set i none) H6 t7 → Q t7) →
            wpAny (model X.prog X.w) X.A (do bindName X.env n .none; unbindBehindTheSuite X.env n q) (fun _ t7 => Q t7) X.xe t6 := fun S6 want => gone_ok (Inv.unsuite (X := X) (a := a) (q := (a, ob4)) (pn' := []) (Inv.wish S6 fun _ _ => False) okX) hN hi hln want
        cases fl with
        | ret u =>
          obtain ⟨v6, σ6, H6, S6, r6, q6⟩ := r
          exact close S6 fun t7 J7 => ⟨v6, _, H6, J7, r6, q6⟩
        | next =>
          obtain ⟨σ6, H6, S6, q6⟩ := r
          exact close S6 fun t7 J7 => ⟨_, H6, J7, q6⟩
        | brk =>
          obtain ⟨σ6, H6, S6, q6⟩ := r
          exact close S6 fun t7 J7 => ⟨_, H6, J7, q6⟩
        | cont =>
          obtain ⟨σ6, H6, S6, q6⟩ := r
          exact close S6 fun t7 J7 => ⟨_, H6, J7, q6⟩
  · cases fl with
    | ret u =>
      obtain ⟨v', σ', H', J', r, q⟩ := h
      exact ⟨v', σ', H', J'.ofTry okX, r, q⟩
    | next =>
      obtain ⟨σ', H', J', q⟩ := h
      exact wpAny_execs_nil ⟨σ', H', J'.ofTry okX, q⟩
    | brk =>
      obtain ⟨σ', H', J', q⟩ := h
      exact ⟨σ', H', J'.ofTry okX, q⟩
    | cont =>
      obtain ⟨σ', H', J', q⟩ := h
      exact ⟨σ', H', J'.ofTry okX, q⟩
end
end Sg

/-! SgFok -/
set_option Elab.async false
set_option linter.all false
set_option maxRecDepth 100000
set_option maxHeartbeats 4000000
/-! ### FaultOfKind, made where nothing is handled and where a Fault is -/
namespace Sg
open PySem PySem.Spec PyProof.Rows L2 L2H HotX
def fkF (k n : Nat) : List (Str × V) := [("place", .int (n : Nat)), ("kind", .int (k : Nat)), ("number", .int (-5))]
theorem fk_place (k n : Nat) : (fkF k n).lookup ("place" : Str) = some (.int (n : Nat)) := lk_here
theorem fk_kind (k n : Nat) : (fkF k n).lookup ("kind" : Str) = some (.int (k : Nat)) := (lk_past (by decide +kernel)).trans lk_here
theorem fk_number (k n : Nat) : (fkF k n).lookup ("number" : Str) = some (.int (-5)) := (lk_past (by decide +kernel)).trans ((lk_past (by decide +kernel)).trans lk_here)
/-- a fault of a kind -/
def BadK (CG : Addr) (E : XK) (k n : Nat) : Prop := ∀ (d : Addr) (H' : Hp), H' d = some (.xd (fkF k n)) → E (.ref CG) (some d) H'
structure TxFk (K : PySem.W.Frag) (mg : Str → Option Value) (CG : Addr) : Prop where
  ox : OexC K CG
  xf : XfC K CG
  np : PySem.W.findIn K (.ref CG) "place" = some none
  nk : PySem.W.findIn K (.ref CG) "kind" = some none
  nn : PySem.W.findIn K (.ref CG) "number" = some none
  g : mg "FaultOfKind" = some (.ref CG)
def spFoK (CG : Addr) : Sp := fun vs H Q _ => ∃ (p : Addr) (k n : Nat), vs = [.ref p, .int (k : Nat), .int (n : Nat)] ∧ H p = some (exo p CG none) ∧ ∀ (H' : Hp) (dx : Addr), H dx = none → H' p = some (exo p CG (some dx)) → H' dx = some (exd dx (fkF k n)) → Q .non H'
section
variable {X : Cx} {k : Nat} {B fB : Addr} {fd : FuncData} {ps : List Str} {sp : Sp} {np ap cp : Pos} {e : Expr} {es : List Expr} {t : TA}
/-- Refusal.__init__(self, ..), while an exception is handled -/
theorem pe_binitH {pl : Sem Bool} (T : TxRef X.K X.mg B fB) (G : FnH X.prog X.w X.K X.mg X.base CX0 k fB fd ps sp) (room : RoomH k X.A) (hot : HotC X) (gl : Gl X "Refusal") (b : Binds X.K fd ps []) (args : PA X (e :: es) t)
    (cut : starEach (e :: es) X.env = (false, eval e X.env) :: starEach es X.env := by rfl) (flat : (backTo cp (starEach es X.env)).any (·.1) = false := by rfl)
    (form : eval (.Call (.Attribute (.Name "Refusal" np) "__init__" ap) (e :: es) [] cp) X.env = (do
        let ov ← eval (.Name "Refusal" np) X.env
        standAt ap.atName
        let (f, first) ← holding [ov] (getMethod ov "__init__" pl)
        callWith cp f first (backTo cp (starEach (e :: es) X.env)) (backToKw cp (keywordEach [] X.env))) := by rfl) :
    PE X (.Call (.Attribute (.Name "Refusal" np) "__init__" ap) (e :: es) [] cp) (tCallS sp (fun _ => L2.E0) t) := by
  constructor
  intro pins s σ H Q I wish
  refine PySem.W.methodCall_KW (pl := pl) (ld_glob I gl T.g ?_ (by decide)) form
  refine PySem.W.method_cls I.kIn T.ga (PySem.W.cls_value I.kIn T.rd T.cl rfl ?_)
  have J := I.tok (s.toks + 1)
  refine PySem.W.callWith_K (first := []) (h₀ := X.base) I.ok.mod.kin T.kp ?_ cut flat
  exact thn (args.run cp pins _ σ H _ J wish) fun us s2 hh => by
    obtain ⟨vs, H2, I2, rel, want⟩ := hh
    exact ⟨I2.kIn, run_fnH (E := fun _ => L2.E0) G room hot b (fun _ _ _ _ _ _ z => z.elim) I2 rel want⟩
end
section
variable {P : Program} {w : World} {K : PySem.W.Frag} {mg : Str → Option Value} {base : Heap} {CG : Addr}
theorem hot_in {CX : CXT} {N : List Str} {qual : Str} {scope : Scope} {f : Addr} {cd : Value} {A : Around} {outer : List Env} {s : Shared} {H : Hp} {E : XK} {p : Addr × Obj} (h : Hot1 A p) : HotC (cxH CX P w K mg base N qual scope f cd A outer s H E p) := ⟨p, ⟨h.1, h.2⟩, List.mem_cons_self⟩
theorem ok_refH {f : Addr} {fd : FuncData} (F : Fun K "__init__" "Refusal.__init__" sRefI f fd) : FnH P w K mg base CX0 1 f fd ["self", "number"] (spRefI K) := by
  obtain ⟨oc, od, kV, doc, pm, an, cdv, ct, osl, rfl, lk, hcd⟩ := F.ex
  refine fn_ofH lk hcd scRefI (fun vs H Q E h => ?_) fun A outer s H vs Q E p hot hr h => ?_
  · obtain ⟨p, C, n, rfl, _⟩ := h
    rfl
  · obtain ⟨p, C, n, rfl, T, hno, hp, k⟩ := h
    refine ⟨_, pss_one (ps_ost (pv 0) (pv 1)), ?_⟩
    exact ⟨_, rfl, _, rfl, p, C, rfl, T, hno, .inl ⟨hp, fun dx hd ne => k dx hd ne⟩⟩
theorem scFoKI : FnScope ["self", "kind", "place"] ["self", "kind", "place"] (defScope sFoKI) := ⟨rfl, rfl, rfl, by decide +kernel, rfl, by decide +kernel, by decide +kernel⟩
/-- the reading behind Refusal.__init__ -/
theorem fok_rest {H : Hp} {p dx : Addr} {k n : Nat} {Q : VK} (T : TxFk K mg CG) (hd : H dx = none) (ne : dx ≠ p) (hp : H p = some (exo p CG none)) (want : ∀ (H' : Hp) (dx : Addr), H dx = none → H' p = some (exo p CG (some dx)) → H' dx = some (exd dx (fkF k n)) → Q .non H') :
    tSeq (tOst K "kind" (tVar 0) (tVar 1)) (tOst K "place" (tVar 0) (tVar 2)) { nx := fun _ H' => Q .non H', rt := Q } (L2.start ["self", "kind", "place"] [.ref p, .int (k : Nat), .int (n : Nat)]) (upd (upd H dx (exd dx [("number", .int (-5))])) p (exo p CG (some dx))) := by
  refine ⟨_, rfl, _, rfl, p, CG, rfl, T.ox, T.nk, .inr ⟨dx, [("number", .int (-5))], upd_same, ?_, (by show 1 ≤ 900; decide), ?_⟩⟩
  · rw [upd_ne ne, upd_same]
  refine ⟨_, rfl, _, rfl, p, CG, rfl, T.ox, T.np, .inr ⟨dx, [("kind", .int (k : Nat)), ("number", .int (-5))], ?_, upd_same, (by show 2 ≤ 900; decide), ?_⟩⟩
  · rw [upd_ne (Ne.symm ne), upd_same]
  · refine want _ dx hd ?_ upd_same
    rw [upd_ne (Ne.symm ne), upd_ne (Ne.symm ne), upd_same]
theorem ok_fokI {f fB B : Addr} {fd fdB : FuncData} (F : Fun K "__init__" "FaultOfKind.__init__" sFoKI f fd) (T : TxFk K mg CG) (R : TxRef K mg B fB) (G : FnOk P w K mg base CX0 1 fB fdB ["self", "number"] (spRefI K)) (bB : Binds K fdB ["self", "number"] []) : FnOk P w K mg base CX0 2 f fd ["self", "kind", "place"] (spFoK CG) := by
  refine F.ok scFoKI (fun vs H Q E h => ?_) (fun cdv A outer s H vs Q E hr h => ?_)
  · obtain ⟨p, k, n, rfl, _⟩ := h
    rfl
  · obtain ⟨p, k, n, rfl, hp, want⟩ := h
    refine ⟨_, pss_cons (ps_expr (pe_binit R G hr (by rfl) bB pass0 (by exact (pa_cons (pv 0) (pa_cons (pe_un un_neg pe_int) pa_nil))))) (pss_cons (ps_ost (pv 0) (pv 1)) (pss_one (ps_ost (pv 0) (pv 2)))), ?_⟩
    exact ⟨_, rfl, _, rfl, p, CG, -5, rfl, T.ox, T.nn, hp, fun dx hd ne => fok_rest T hd ne hp want⟩
theorem ok_fokH {f fB B : Addr} {fd fdB : FuncData} (F : Fun K "__init__" "FaultOfKind.__init__" sFoKI f fd) (T : TxFk K mg CG) (R : TxRef K mg B fB) (G : FnH P w K mg base CX0 1 fB fdB ["self", "number"] (spRefI K)) (bB : Binds K fdB ["self", "number"] []) : FnH P w K mg base CX0 2 f fd ["self", "kind", "place"] (spFoK CG) := by
  obtain ⟨oc, od, kV, doc, pm, an, cdv, ct, osl, rfl, lk, hcd⟩ := F.ex
  refine fn_ofH lk hcd scFoKI (fun vs H Q E h => ?_) fun A outer s H vs Q E p hot hr h => ?_
  · obtain ⟨p, k, n, rfl, _⟩ := h
    rfl
  · obtain ⟨p, k, n, rfl, hp, want⟩ := h
    refine ⟨_, pss_cons (ps_expr (pe_binitH R G hr (hot_in hot) (by rfl) bB (by exact (pa_cons (pv 0) (pa_cons (pe_un un_neg pe_int) pa_nil))))) (pss_cons (ps_ost (pv 0) (pv 1)) (pss_one (ps_ost (pv 0) (pv 2)))), ?_⟩
    exact ⟨_, rfl, _, rfl, p, CG, -5, rfl, T.ox, T.nn, hp, fun dx hd ne => fok_rest T hd ne hp want⟩
end
end Sg

/-! SgLam -/
set_option Elab.async false
set_option linter.all false
set_option maxRecDepth 100000
set_option maxHeartbeats 4000000
/-! ### read_as(kind, lambda: ..) -/
namespace Sg
open PySem PySem.Spec PyProof.Rows L2 L2H HotX LamX
/-- the lambda's context: the exceptions that leave it have no context -/
abbrev lamN (X : Cx) (A : Around) (outer : List Env) (s : Shared) (H : Hp) (E : XK) (scope : Scope) (f c' : Addr) : Cx :=
  (lamCx X A outer s H E scope f c').wish fun e s' => wpAny (model X.prog X.w) (A.deeper (lamEnv X scope s.heap.objs.size f c')) (leaving (lamEnv X scope s.heap.objs.size f c') e) (fun _ s'' => L2N.CX X.prog X.w outer H s E e s'') (fun e' s'' => L2N.CX X.prog X.w outer H s E e' s'') s'
section
variable {X : Cx} {pins : List (Addr × Obj)} {σ : L2.St} {H : Hp} {s : Shared}
/-- the lambda in hand is called -/
theorem read_act {OX : CXT} {OE : XK} {names : List Str} {nm rv : Str} {gs scope : Scope} {ga fa ca : Addr} {gcd modv tab : Value} {prm : Arguments} {what : Expr} {lev at_ : Nat} {pn : List (Addr × Obj)} {xe : Value → Shared → Prop} {W : WX} {E : XK} {rd : TE} {q1 q2 : Pos}
    (I : Inv X pins σ H s) (L : LamS X.env.scope scope) (isLam : s.heap.get? fa = some (PySem.W.kla_obj "<lambda>" (X.env.qual ++ "<lambda>") prm what scope (cloFrom X.env.cells scope.names []) modv ca tab)) (hid : H fa = none) (noFr : fa ∉ frs X.stack)
    (bare : bindArgs (PySem.W.kla_fn "<lambda>" (X.env.qual ++ "<lambda>") prm what scope (cloFrom X.env.cells scope.names []) modv (.ref ca) tab) ⟨[], []⟩ = pure [])
    (tk : L2N.Takes ((cxOf OX X.prog X.w X.K X.mg X.base names nm gs ga gcd X.A X.stack s H OE).tr pn xe) W) (room : Room (lev + 1) (X.A.deeper (envOfC nm gs s.heap.objs.size ga gcd)))
    (reads : ∀ (A : Around) (outer : List Env) (s : Shared) (H : Hp), Room lev (A.deeper (lamEnv X scope s.heap.objs.size fa ca)) → PE (lamN X A outer s H E scope fa ca) what rd)
    (hN : names[at_]? = some rv) (see : Vis gs rv) (ndb : (rv == ("__debug__" : Str)) = false := by decide) (ncd : (rv == ("__classdict__" : Str)) = false := by decide) :
    PE ((cxOf OX X.prog X.w X.K X.mg X.base names nm gs ga gcd X.A X.stack s H OE).tr pn xe) (.Call (.Name rv q1) [] [] q2)
      (fun σZ HZ Q => (∀ cls d H', E cls d H' → W cls d σZ H') ∧ σZ[at_]? = some (some (.ref fa)) ∧ HZ ca = some (CodeO ca (X.env.qual ++ "<lambda>")) ∧ rd σ HZ Q) := by
  constructor
  intro pinsZ sZ σZ HZ Q IZ wish
  obtain ⟨hW, inSlot, isCode, want⟩ := wish
  refine wpAny_Call_Name_kw (thn ((pe_var (pos := q1) (i := at_) hN see ndb ncd).run pinsZ sZ σZ HZ (fun v H1 => v = .ref fa ∧ H1 = HZ) IZ ⟨.ref fa, inSlot, rfl, rfl⟩) fun u s1 got => ?_)
  obtain ⟨v, H1, I1, r1, ev, eH⟩ := got
  subst ev
  rw [eH] at I1
  obtain rfl : u = Value.ref fa := r1
  have still : s1.heap.get? fa = some (PySem.W.kla_obj "<lambda>" (X.env.qual ++ "<lambda>") prm what scope (cloFrom X.env.cells scope.names []) modv ca tab) := I1.base.keep fa _ isLam hid noFr (fun z => nomatch (show fa ∈ ([] : List Addr) from z))
  refine PySem.W.callWith_F0 (q := fa) ⟨_, _, _, _, still⟩ ?_
  have un : Un (frs X.stack) [] H HZ s.heap s1.heap := I1.base
  obtain ⟨⟨codeOb, fields, tok, hoc, hdc, hvc⟩, _, _⟩ := I1.hok ca _ isCode
  have called : codeAny (model X.prog X.w) (X.A.deeper (envOfC nm gs s.heap.objs.size ga gcd)) (.call (.ref fa) ⟨[], []⟩) (CR (L2N.CX X.prog X.w) (envOfC nm gs s.heap.objs.size ga gcd :: X.stack) X.prog X.w HZ s1 Q E) s1 := by
    refine PySem.W.kla_callFunE room.depth still rfl L.co L.gen rfl ⟨ca, codeOb, fields, tok, rfl, hoc, hdc, hvc⟩ ?_
    rw [bare]
    refine wpAny_pure (wpAny_newFunctionEnv (fun y hy => (L.own y hy).2) (fun y hy => absurd hy (by simp)) (fun g₁ nsG sbG => ⟨I1.nolimit.fresh _ sbG, ?_⟩) L.kind)
    show codeAny _ _ (.expr what (lamEnv X scope s1.heap.objs.size fa ca)) _ _
    have old : ∀ b o, s1.heap.get? b = some o → g₁.get? b = some o := fun b o e => sbG.extBut b o (Nat.ne_of_lt (Heap.lt_size e)) (Heap.get?_push_of_some _ e)
    have J : Inv (lamN X (X.A.deeper (envOfC nm gs s.heap.objs.size ga gcd)) (envOfC nm gs s.heap.objs.size ga gcd :: X.stack) s1 HZ E scope fa ca) [] σ HZ { s1 with heap := g₁, toks := s1.toks + ([] : List (Str × Value)).length } :=
      Inv.wish (lam_start2 I L I1.env0 room.hd un nsG old) _
    refine PySem.W.kla_codeExpr (wpAny_mono ((reads _ _ s1 HZ (room.deeper _)).run [] _ _ HZ Q J want) (fun v s' post => ?_) fun e s' post => post)
    obtain ⟨w', H', J', rv', q'⟩ := post
    exact ⟨w', H', J'.os, J'.bare, J'.base, J'.hok, rv', q'⟩
  refine wpAny_call (codeAny_mono called fun r s' post => ?_)
  match r, post with
  | .error er, post => exact tk er s' (L2N.XE.of_call I1 hW post)
  | .ok (.ret u), post => exact I1.after post
  | .ok .next, post => exact post.elim
  | .ok .brk, post => exact post.elim
  | .ok .cont, post => exact post.elim
end
/-! ### read_as -/
structure ReadAs (K : PySem.W.Frag) (mg : Str → Option Value) : Prop where
  ex : ∃ ga fd, mg "read_as" = some (.ref ga) ∧ PySem.W.keepIn K (.ref ga) = true ∧ Fun K "read_as" "read_as" sReadAs ga fd ∧ Binds K fd ["kind", "read"] []
structure FokH (P : Program) (w : World) (K : PySem.W.Frag) (mg : Str → Option Value) (base : Heap) (CG : Addr) : Prop where
  ex : ∃ fI fd, PySem.W.findIn K (.ref CG) "__init__" = some (some (.ref fI)) ∧ PySem.W.typeIn K (.ref fI) = some (.type "function") ∧ FnH P w K mg base CX0 2 fI fd ["self", "kind", "place"] (spFoK CG) ∧ Binds K fd ["self", "kind", "place"] []
/-- what leaves the reading, as the caller of read_as takes it -/
def eFault (K : PySem.W.Frag) (CF CG : Addr) (E : XK) (k : Nat) : XK := fun cls d H' => ∃ yes : Bool, PySem.W.exmOne K cls (.ref CF) = some yes ∧
  (yes = true → ∃ (C dd : Addr) (fs : List (Str × V)) (n : Nat), cls = .ref C ∧ XfC K C ∧ PySem.W.findIn K (.ref C) "place" = some none ∧ d = some dd ∧ H' dd = some (.xd fs) ∧ fs.lookup ("place" : Str) = some (.int (n : Nat)) ∧ BadK CG E k n) ∧ (yes = false → E cls d H')
def tReadAs (T : List (Addr × Str)) (K : PySem.W.Frag) (CF CG : Addr) (E : XK) (k : Nat) (t : XK → TE) : TE := fun σ H Q => Tabs T H ∧ ∀ H1, ExtN H H1 → Tabs T H1 → t (eFault K CF CG E k) σ H1 Q
theorem scReadAs : FnScope ["kind", "read", "fault"] ["kind", "read"] (defScope sReadAs) := ⟨rfl, rfl, rfl, by decide +kernel, rfl, by decide +kernel, by decide +kernel⟩
section
variable {X : Cx} {CF CG : Addr} {E : XK} {T : List (Addr × Str)} {c tP : Addr} {lev k : Nat} {prm : Arguments} {what : Expr} {scope : Scope} {t : XK → TE} {np lp cp : Pos} {e0 : Expr}
theorem pe_readas (RA : ReadAs X.K X.mg) (TF : TxF X.K X.mg CF) (TK : TxFk X.K X.mg CG) (FK : FokH X.prog X.w X.K X.mg X.base CG) (gl : Gl X "read_as") (kind : PE X e0 (tC (.int (k : Nat)))) (TB : TabB X.base X.mg c tP) (code : X.env.code = .ref c) (mem : (tP, X.env.qual ++ "<lambda>") ∈ T)
    (one : ∀ p ∈ T, p.1 = tP → p.2 = X.env.qual ++ "<lambda>") (room : Room (lev + 4) X.A) (L : LamS X.env.scope scope) (nodef : defaultsOf prm X.env = ([], []))
    (bare : ∀ (q : Str) (cl : List (Str × Addr)) (pm cv ctv : Value), bindArgs (PySem.W.kla_fn "<lambda>" q prm what scope cl pm cv ctv) ⟨[], []⟩ = pure []) (out : Passes (L2.CX X.prog X.w) X E)
    (reads : ∀ (A : Around) (outer : List Env) (s : Shared) (H : Hp) (E' : XK) (fa ca : Addr), Room (lev + 2) (A.deeper (lamEnv X scope s.heap.objs.size fa ca)) → PE (lamN X A outer s H E' scope fa ca) what (t E'))
    (cut : starEach [e0, .Lambda prm what scope lp] X.env = (false, eval e0 X.env) :: starEach [.Lambda prm what scope lp] X.env := by rfl) :
    PE X (.Call (.Name "read_as" np) [e0, .Lambda prm what scope lp] [] cp) (tReadAs T X.K CF CG E k t) := by
  constructor
  intro pins s σ H Q I wish
  obtain ⟨tabs, want⟩ := wish
  obtain ⟨ga, fd, hm, hk, FU, hb⟩ := RA.ex
  obtain ⟨oc, od, kV, doc, pm, an, cdv, ct, osl, rfl, lk, hcd⟩ := FU.ex
  obtain ⟨fI, fdI, hi, ht, FH, bI⟩ := FK.ex
  refine wpAny_Call_Name_kw (ld_glob I gl hm ?_ (by decide))
  refine PySem.W.callWith_K (h₀ := X.base) I.ok.mod.kin hk ?_ cut (by rfl)
  rw [cut]
  show wpAny _ _ (spliced ((false, eval e0 X.env) :: (false, eval (.Lambda prm what scope lp) X.env) :: [])) _ _ s
  refine Calls.spliced_cons (thn (kind.run pins s σ H (fun v H2 => v = .int (k : Nat) ∧ H2 = H) I ⟨rfl, rfl⟩) fun u0 s1 first => ?_)
  obtain ⟨v0, H0, I0, rel0, ev0, eH0⟩ := first
  subst ev0
  subst eH0
  refine Calls.spliced_cons (lam_make2 I0 TB code mem one tabs nodef (L.has I0.ok) fun fa ca modv tab H1 s' I1 eN T1 isLam hid noFr isCode => ?_)
  refine Calls.spliced_nil ⟨I1.kIn, ?_⟩
  have called : codeAny (model X.prog X.w) X.A (.call (.ref ga) ⟨[u0, .ref fa], []⟩) (CR (L2.CX X.prog X.w) X.stack X.prog X.w H1 s' Q E) s' := by
    refine run_ofS (N := ["kind", "read", "fault"]) (ps := ["kind", "read"]) (us := [u0, .ref fa]) (vs := [.int (k : Nat), .ref fa]) lk hcd scReadAs room I1.env0 (hb s' [u0, .ref fa] I1.kIn rfl) (.cons rel0 (.cons rfl .nil)) rfl fun inside => ?_
    refine ⟨_, pss_one (ps_try_asX (i := 2) (E := E) (tb := fun W D σZ HZ => (∀ cls d H', eFault X.K CF CG E k cls d H' → W cls d σZ H') ∧ σZ[1]? = some (some (.ref fa)) ∧ HZ ca = some (CodeO ca (X.env.qual ++ "<lambda>")) ∧ t (eFault X.K CF CG E k) σ HZ D.rt)
        (ts := fun a cls d _ σ H => tMkO CG (spFoK CG) [] (tCons (tVar 0) (tCons (tXfA X.K a cls d 2 "place") tNil)) σ H (fun cls d H' => E cls d H'))
        rfl rfl rfl rfl ⟨rfl, by decide, Or.inl TF.g⟩ scReadAs.nd rfl rfl
        (fun W pn xe tk => pss_one (ps_ret (read_act (lev := lev + 2) (at_ := 1) I1 L isLam hid noFr (bare _ _ _ _ _) tk inside (fun A outer s H r => reads A outer s H _ fa ca r) rfl (Or.inl rfl))))
        (fun a oe cls d pn air hz hf tk hot => pss_one (ps_raiseH hot tk (PMk5.pmk (pmk5_oexH TK.ox hi ht FH (roomH_mark (inside.mono (by omega)) _) hot bI pass0 (by rfl) TK.g
          (pa_cons (pv 0) (pa_cons (PE.nox (pe_xfA hz.zc hf (pv 2))) pa_nil))))))), ?_⟩
    refine ⟨fun cls d H' way => ?_, rfl, isCode, want H1 eN T1⟩
    obtain ⟨yes, hexm, hyes, hno⟩ := way
    refine ⟨yes, hexm, fun z a _ => ?_, hno⟩
    obtain ⟨C, dd, fs, n, rfl, xf, np, rfl, hd, hl, bad⟩ := hyes z
    refine ⟨_, rfl, rfl, C, dd, fs, _, rfl, xf, np, rfl, hd, hl, (by show 2 ≤ 1000; decide), fun e he => ⟨e, k, n, rfl, upd_same, fun H2 dx h0 h1 h2 => ⟨rfl, dx, fkF k n, h1, h2, ?_, bad dx _ upd_same⟩⟩⟩
    by_cases w : dx = e
    · rw [w, upd_same] at h0
      cases h0
    · rw [upd_ne w] at h0
      exact h0
  refine wpAny_call (codeAny_mono called fun r s2 post => ?_)
  match r, post with
  | .error er, post => exact out pins σ _ _ er s2 I1 post
  | .ok (.ret u), post => exact I1.after post
  | .ok .next, post => exact post.elim
  | .ok .brk, post => exact post.elim
  | .ok .cont, post => exact post.elim
end
end Sg

/-! SgErr -/
set_option Elab.async false
set_option linter.all false
set_option maxRecDepth 100000
set_option maxHeartbeats 4000000
namespace Sg
open PySem PySem.Spec PyProof.Rows L2
/-! ### errors as the calls take them: each tells its number -/
structure ErrK (K : PySem.W.Frag) (CE C : Addr) : Prop where
  m : PySem.W.exmOne K (.ref C) (.ref CE) = some true
  xf : XfC K C
  nn : PySem.W.findIn K (.ref C) "number" = some none
/-- E holds of each error of the program's own that tells n -/
def Told (K : PySem.W.Frag) (CE : Addr) (E : XK) (n : Int) : Prop := ∀ (C d : Addr) (H' : Hp) (fs : List (Str × V)), ErrK K CE C → H' d = some (.xd fs) → fs.lookup ("number" : Str) = some (.int n) → E (.ref C) (some d) H'
theorem ft_number (q : Nat) : (ftF q).lookup ("number" : Str) = some (.int (-5)) := (lk_past (by decide +kernel)).trans lk_here
theorem ft_place (q : Nat) : (ftF q).lookup ("place" : Str) = some (.int (q : Nat)) := lk_here
theorem Told.bad {K : PySem.W.Frag} {CE CF : Addr} {E : XK} (h : Told K CE E (-5)) (e : ErrK K CE CF) (q : Nat) : Bad CF E q := fun d H' hd => h CF d H' _ e hd (ft_number q)
theorem Told.gone {K : PySem.W.Frag} {CE C : Addr} {E : XK} {n : Int} (h : Told K CE E n) (e : ErrK K CE C) : Gone C n E := fun d H' hd => h C d H' _ e hd lk_here
section
variable {X : Cx} {CX : CXT} {k : Nat} {ps : List Str} {sp : Sp} {E : L2.St → XK} {x : Str} {p pos : Pos} {e : Expr} {es : List Expr} {t : TA}
theorem pe_cS (G : CallOk X.prog X.w X.K X.mg X.base CX k x ps sp) (hr : Room k X.A) (hg : Gl X x) (hx : ∀ σ, PassesAt CX X σ (E σ)) (ha : PA X (e :: es) t) (hdb : (x == ("__debug__" : Str)) = false := by decide)
    (he : starEach (e :: es) X.env = (false, eval e X.env) :: starEach es X.env := by rfl) (hpl : (backTo pos (starEach es X.env)).any (·.1) = false := by rfl) : PE X (.Call (.Name x p) (e :: es) [] pos) (tCallS sp E t) := by
  obtain ⟨f, fd, hm, hk, hb, F⟩ := G.ex
  exact pe_callS F hr hg hm hk hb hx ha hdb he hpl
end
section
variable {K : PySem.W.Frag} {CE : Addr}
/-! ### what the calls answer to an error -/
abbrev sayNo (K : PySem.W.Frag) (i : Nat) : Suite := fun a cls d => tRet (tLst (tCons (tXfA K a cls d i "number") tNil))
theorem told_top {Wout : WX} {D : Ends} {σ : L2.St} {i : Nat} {n : Int} (hs : ∀ a : Addr, (σ.set i (some (.ref a)))[i]? = some (some (.ref a))) (k : ∀ (H' : Hp) (p : Addr), H' p = none → D.rt (.ref p) (upd H' p (.lst [V.int n]))) :
    Told K CE (WE (wMix K Wout D [(.ref CE, some i, sayNo K i)]) σ) n := by
  intro C d H' fs e hd hl
  refine ⟨true, e.m, fun _ a ha => ?_, fun z => Bool.noConfusion z⟩
  exact ⟨hs a, C, d, fs, .int n, rfl, e.xf, e.nn, rfl, hd, hl, (by show 1 ≤ sizeLine; decide), fun p hp => k _ p hp⟩
end
end Sg

/-! SgRow -/
set_option Elab.async false
set_option linter.all false
set_option maxRecDepth 100000
set_option maxHeartbeats 2000000
namespace Sg
open Fh
/-! ### a piece as the program takes it -/
theorem lk_eq123 (c : UInt8) (r : Bytes) : c = 123 ↔ lk (c :: r) = 123 := u8_eq c 123 (by omega)
theorem lk_eq125 (c : UInt8) (r : Bytes) : c = 125 ↔ lk (c :: r) = 125 := u8_eq c 125 (by omega)
def tagEnd (n : Nat) (d : Bytes) (r : Except Nat (Nat × Nat)) : Except Nat (Nat × Nat) := match r with
  | .error k => .error (k - n)
  | .ok x => if lk (d.drop (x.2 - n)) = 125 then .ok x else .error (x.2 - n)
theorem can999 {v : Nat} : begins 1 999 v = (decide (1 ≤ v) && decide (v ≤ 999)) := by
  by_cases h0 : v = 0
  · subst h0
    rfl
  by_cases h : v ≤ 999
  · rw [begins_true 0 h0 (by omega) (by omega) (by omega), decide_eq_true (show 1 ≤ v by omega), decide_eq_true h]
    rfl
  · rw [begins_false 0 h0 (fun j hj => absurd hj (by omega)) (by omega), decide_eq_false h, Bool.and_false]
theorem fin999 {v : Nat} : within 1 999 v = (decide (1 ≤ v) && decide (v ≤ 999)) := rfl
theorem digits_more : ∀ (d : Bytes) (n v : Nat), 1 ≤ n → n ≤ 3 → 1 ≤ v → v ≤ 999 → (n < 3 ↔ v ≤ 99) → (n = 1 → v ≤ 9) → (n = 2 → 10 ≤ v) → digitsHere n v d = tagEnd n d (moreDigits (begins 1 999) (within 1 999) n v d)
  | [], n, v, h1, h2, h3, h4, h5, h6, h7 => by
    have hf : within 1 999 v = true := by
      rw [fin999, decide_eq_true h3, decide_eq_true h4]
      rfl
    simp only [digitsHere, moreDigits, hf, if_true, tagEnd]
    rw [Nat.sub_self]
    rfl
  | c :: r, n, v, h1, h2, h3, h4, h5, h6, h7 => by
    have hf : within 1 999 v = true := by
      rw [fin999, decide_eq_true h3, decide_eq_true h4]
      rfl
    have hn : ¬ n = 0 := by omega
    simp only [digitsHere, moreDigits, hf, if_neg hn]
    by_cases hd : isDigit c = true
    · have c125 : ¬ c = 125 := fun z => by
        rw [z] at hd
        revert hd
        decide
      have hdl := (isDigit_lk c r).mp hd
      rw [lk_cons] at hdl
      rw [if_neg c125, hd]
      by_cases h : n < 3
      · have hv : v ≤ 99 := h5.mp h
        have hc : begins 1 999 (10 * v + (c.toNat - 48)) = true := by
          rw [can999, decide_eq_true (show 1 ≤ 10 * v + (c.toNat - 48) by omega), decide_eq_true (show 10 * v + (c.toNat - 48) ≤ 999 by omega)]
          rfl
        rw [if_pos ⟨h, rfl⟩, if_pos ⟨rfl, by omega, hc⟩]
        rw [digits_more r (n + 1) (10 * v + (c.toNat - 48)) (by omega) (by omega) (by omega) (by omega) ⟨fun _ => by omega, fun _ => by omega⟩ (by omega) (by omega)]
        have hb : ∀ m x, moreDigits (begins 1 999) (within 1 999) (n + 1) (10 * v + (c.toNat - 48)) r = .ok (x, m) → n + 1 ≤ m := fun m x e => (moreDigits_ok _ _ _ _ _ _ _ e).2.1
        have he : ∀ m, moreDigits (begins 1 999) (within 1 999) (n + 1) (10 * v + (c.toNat - 48)) r = .error m → n + 1 ≤ m := fun m e => (moreDigits_err _ _ _ _ _ _ e).1
        revert hb he
        cases moreDigits (begins 1 999) (within 1 999) (n + 1) (10 * v + (c.toNat - 48)) r with
        | error k =>
          intro _ he
          have := he k rfl
          show Except.error (k - (n + 1) + 1) = Except.error (k - n)
          rw [show k - (n + 1) + 1 = k - n by omega]
        | ok x =>
          intro hb _
          have hx := hb x.2 x.1 rfl
          simp only [tagEnd]
          rw [show (c :: r).drop (x.2 - n) = r.drop (x.2 - (n + 1)) by rw [show x.2 - n = (x.2 - (n + 1)) + 1 by omega]; rfl]
          by_cases q : lk (r.drop (x.2 - (n + 1))) = 125
          · rw [if_pos q, if_pos q]
          · rw [if_neg q, if_neg q]
            show Except.error (x.2 - (n + 1) + 1) = Except.error (x.2 - n)
            rw [show x.2 - (n + 1) + 1 = x.2 - n by omega]
      · have hv : 100 ≤ v := by omega
        have hc : begins 1 999 (10 * v + (c.toNat - 48)) = false := by
          rw [can999, decide_eq_false (show ¬ 10 * v + (c.toNat - 48) ≤ 999 by omega), Bool.and_false]
        rw [if_neg (fun z => h z.1), if_neg (fun z => by rw [hc] at z; exact Bool.noConfusion z.2.2), if_neg (fun z => Bool.noConfusion z.2)]
        show Except.error 0 = Except.error (n - n)
        rw [Nat.sub_self]
    · have hd' : isDigit c = false := by
        cases q : isDigit c with
        | true => exact absurd q hd
        | false => rfl
      rw [hd']
      by_cases q : c = 125
      · rw [if_pos q, if_neg (fun z => Bool.noConfusion z.1), if_pos ⟨trivial, rfl⟩]
        simp only [tagEnd]
        rw [Nat.sub_self]
        show _ = if lk (c :: r) = 125 then _ else _
        rw [if_pos ((lk_eq125 c r).mp q)]
      · rw [if_neg q, if_neg (fun z => Bool.noConfusion z.2), if_neg (fun z => Bool.noConfusion z.1), if_pos ⟨trivial, rfl⟩]
        simp only [tagEnd]
        rw [Nat.sub_self]
        show _ = if lk (c :: r) = 125 then _ else _
        rw [if_neg (fun z => q ((lk_eq125 c r).mpr z))]
theorem digits_is (d : Bytes) : digitsHere 0 0 d = tagEnd 0 d (num 1 999 d) := by
  cases d with
  | nil => rfl
  | cons c r =>
    unfold num
    simp only [digitsHere, numberHere, if_true]
    by_cases h : 49 ≤ c.toNat ∧ c.toNat ≤ 57
    · have hd : isDigit c = true := (isDigit_lk c r).mpr (by rw [lk_cons]; omega)
      have hc : begins 1 999 (c.toNat - 48) = true := by
        rw [can999, decide_eq_true (show 1 ≤ c.toNat - 48 by omega), decide_eq_true (show c.toNat - 48 ≤ 999 by omega)]
        rfl
      rw [if_pos h, if_pos ⟨hd, hc⟩]
      rw [digits_more r 1 (c.toNat - 48) (by omega) (by omega) (by omega) (by omega) ⟨fun _ => by omega, fun _ => by omega⟩ (by omega) (by omega)]
      have hb : ∀ m x, moreDigits (begins 1 999) (within 1 999) 1 (c.toNat - 48) r = .ok (x, m) → 1 ≤ m := fun m x e => (moreDigits_ok _ _ _ _ _ _ _ e).2.1
      have he : ∀ m, moreDigits (begins 1 999) (within 1 999) 1 (c.toNat - 48) r = .error m → 1 ≤ m := fun m e => (moreDigits_err _ _ _ _ _ _ e).1
      revert hb he
      cases moreDigits (begins 1 999) (within 1 999) 1 (c.toNat - 48) r with
      | error k =>
        intro _ he
        have := he k rfl
        show Except.error (k - 1 + 1) = Except.error (k - 0)
        rw [show k - 1 + 1 = k - 0 by omega]
      | ok x =>
        intro hb _
        have hx := hb x.2 x.1 rfl
        simp only [tagEnd]
        rw [show (c :: r).drop (x.2 - 0) = r.drop (x.2 - 1) by rw [show x.2 - 0 = (x.2 - 1) + 1 by omega]; rfl]
        by_cases q : lk (r.drop (x.2 - 1)) = 125
        · rw [if_pos q, if_pos q]
        · rw [if_neg q, if_neg q]
          show Except.error (x.2 - 1 + 1) = Except.error (x.2 - 0)
          rw [show x.2 - 1 + 1 = x.2 - 0 by omega]
    · rw [if_neg h]
      by_cases hd : isDigit c = true
      · have hdl := (isDigit_lk c r).mp hd
        rw [lk_cons] at hdl
        have hc : begins 1 999 (c.toNat - 48) = false := by
          rw [can999, decide_eq_false (show ¬ 1 ≤ c.toNat - 48 by omega), Bool.false_and]
        rw [if_neg (fun z => by rw [hc] at z; exact Bool.noConfusion z.2)]
        rfl
      · rw [if_neg (fun z => hd z.1)]
        rfl
def tagK : Piece → Nat
  | .char _ => 0
  | .open_ _ => 43
  | .close _ => 45
  | .alone _ => 46
def tagN : Piece → Nat
  | .char c => c
  | p => p.number
def tagW (s n : Nat) : Piece := if s = 43 then .open_ n else if s = 45 then .close n else .alone n
/-- read_piece -/
def pieceM (b : Bytes) : Except Nat (Piece × Nat) :=
  if lk b ≠ 123 then (match charHere b with
    | .ok x => .ok (.char x.1, x.2)
    | .error k => .error k)
  else if lk (b.drop 1) = 123 then .ok (.char 123, 2)
  else if lk (b.drop 1) = 43 ∨ lk (b.drop 1) = 45 ∨ lk (b.drop 1) = 46 then (match num 1 999 (b.drop 2) with
    | .error k => .error (2 + k)
    | .ok x => if lk (b.drop (2 + x.2)) = 125 then .ok (tagW (lk (b.drop 1)) x.1, 3 + x.2) else .error (2 + x.2))
  else .error 1
theorem pieceHere_is (b : Bytes) : pieceHere b = pieceM b := by
  cases b with
  | nil => rfl
  | cons c r =>
    unfold pieceHere pieceM
    dsimp only
    by_cases h : c = 123
    · rw [if_pos h, if_neg (fun z => z ((lk_eq123 c r).mp h))]
      show _ = if lk r = 123 then _ else if lk r = 43 ∨ lk r = 45 ∨ lk r = 46 then _ else _
      cases r with
      | nil => rfl
      | cons s d =>
        show (if s = 123 then _ else if s = 43 ∨ s = 45 ∨ s = 46 then _ else _) = _
        by_cases h1 : s = 123
        · rw [if_pos h1, if_pos ((lk_eq123 s d).mp h1)]
        rw [if_neg h1, if_neg (fun z => h1 ((lk_eq123 s d).mpr z))]
        by_cases h2 : s = 43 ∨ s = 45 ∨ s = 46
        · have h2' : lk (s :: d) = 43 ∨ lk (s :: d) = 45 ∨ lk (s :: d) = 46 := by
            rcases h2 with z | z | z
            · exact .inl ((lk_eq43 s d).mp z)
            · exact .inr (.inl ((lk_eq45 s d).mp z))
            · exact .inr (.inr ((lk_eq46 s d).mp z))
          rw [if_pos h2, if_pos h2', digits_is]
          show _ = match num 1 999 d with
            | .error k => Except.error (2 + k)
            | .ok x => if lk ((c :: s :: d).drop (2 + x.2)) = 125 then .ok (tagW (lk (s :: d)) x.1, 3 + x.2) else .error (2 + x.2)
          cases num 1 999 d with
          | error k =>
            show Except.error (k - 0 + 2) = Except.error (2 + k)
            rw [show k - 0 + 2 = 2 + k by omega]
          | ok x =>
            simp only [tagEnd]
            rw [show (c :: s :: d).drop (2 + x.2) = d.drop (x.2 - 0) by rw [show 2 + x.2 = (x.2 - 0) + 1 + 1 by omega]; rfl]
            by_cases q : lk (d.drop (x.2 - 0)) = 125
            · rw [if_pos q, if_pos q]
              show Except.ok (tagOf s x.1, x.2 + 3) = Except.ok (tagW (lk (s :: d)) x.1, 3 + x.2)
              rw [Nat.add_comm]
              have e : tagOf s x.1 = tagW (lk (s :: d)) x.1 := by
                unfold tagOf tagW
                by_cases z : s = 43
                · rw [if_pos z, if_pos ((lk_eq43 s d).mp z)]
                rw [if_neg z, if_neg (fun y => z ((lk_eq43 s d).mpr y))]
                by_cases z2 : s = 45
                · rw [if_pos z2, if_pos ((lk_eq45 s d).mp z2)]
                rw [if_neg z2, if_neg (fun y => z2 ((lk_eq45 s d).mpr y))]
              rw [e]
            · rw [if_neg q, if_neg q]
              show Except.error (x.2 - 0 + 2) = Except.error (2 + x.2)
              rw [show x.2 - 0 + 2 = 2 + x.2 by omega]
        · have h2' : ¬ (lk (s :: d) = 43 ∨ lk (s :: d) = 45 ∨ lk (s :: d) = 46) := by
            rintro (z | z | z)
            · exact h2 (.inl ((lk_eq43 s d).mpr z))
            · exact h2 (.inr (.inl ((lk_eq45 s d).mpr z)))
            · exact h2 (.inr (.inr ((lk_eq46 s d).mpr z)))
          rw [if_neg h2, if_neg h2']
    · rw [if_neg h, if_pos (fun z => h ((lk_eq123 c r).mpr z))]
      cases charHere (c :: r) <;> rfl
theorem rowFrom_step (f p : Nat) (l : Row) (b : Bytes) (hb : b ≠ []) : rowFrom (f + 1) p l b = match pieceM b with
    | .ok x => rowFrom f (p + x.2) (x.1 :: l) (b.drop x.2)
    | .error k => .error (p + k) := by
  cases b with
  | nil => exact absurd rfl hb
  | cons c r =>
    rw [← pieceHere_is]
    rfl
/-! ### paired -/
/-- what the program's walk over a row says: the pile (its top first), the numbers seen -/
def pairM : List Nat → List Nat → Row → Bool
  | s, _, [] => s.isEmpty
  | s, u, .char _ :: r => pairM s u r
  | s, u, .open_ n :: r => !u.contains n && pairM (n :: s) (n :: u) r
  | s, u, .alone n :: r => !u.contains n && pairM s (n :: u) r
  | [], _, .close _ :: _ => false
  | m :: t, u, .close n :: r => m == n && pairM t u r
def marks : Row → List Nat
  | [] => []
  | .open_ n :: r => n :: marks r
  | .alone n :: r => n :: marks r
  | _ :: r => marks r
theorem halves_grow : ∀ (r : Row) (s l : List Nat) (x : List Nat × List Nat), halvesFrom s l r = some x → ∃ m, x.1 = l ++ m
  | [], s, l, x, h => ⟨[], by
    have : x = (l, s.reverse) := (Option.some.inj h).symm
    rw [this, List.append_nil]⟩
  | .char _ :: r, s, l, x, h => halves_grow r s l x h
  | .alone _ :: r, s, l, x, h => halves_grow r s l x h
  | .open_ n :: r, s, l, x, h => halves_grow r (n :: s) l x h
  | .close n :: r, [], l, x, h => by
    obtain ⟨m, e⟩ := halves_grow r [] (l ++ [n]) x h
    exact ⟨n :: m, by rw [e, List.append_assoc]; rfl⟩
  | .close n :: r, k :: t, l, x, h => by
    by_cases q : k = n
    · have h' : halvesFrom t l r = some x := by
        simp only [halvesFrom, if_pos q] at h
        exact h
      exact halves_grow r t l x h'
    · simp only [halvesFrom, if_neg q] at h
      cases h
theorem halves_count : ∀ (r : Row) (s l : List Nat) (x : List Nat × List Nat) (a : Nat), halvesFrom s l r = some x → (opens r).count a + s.count a + x.1.count a = (closes r).count a + x.2.count a + l.count a
  | [], s, l, x, a, h => by
    have : x = (l, s.reverse) := (Option.some.inj h).symm
    rw [this]
    show (0 + s.count a) + l.count a = 0 + s.reverse.count a + l.count a
    rw [List.count_reverse]
  | .char _ :: r, s, l, x, a, h => halves_count r s l x a h
  | .alone _ :: r, s, l, x, a, h => halves_count r s l x a h
  | .open_ n :: r, s, l, x, a, h => by
    have ih := halves_count r (n :: s) l x a h
    show (n :: opens r).count a + s.count a + x.1.count a = (closes r).count a + x.2.count a + l.count a
    rw [List.count_cons] at ih ⊢
    omega
  | .close n :: r, [], l, x, a, h => by
    have ih := halves_count r [] (l ++ [n]) x a h
    show (opens r).count a + ([] : List Nat).count a + x.1.count a = (n :: closes r).count a + x.2.count a + l.count a
    rw [List.count_append] at ih
    rw [List.count_cons]
    rw [show ([n] : List Nat).count a = if n == a then 1 else 0 by rw [List.count_cons, List.count_nil, Nat.zero_add]] at ih
    omega
  | .close n :: r, k :: t, l, x, a, h => by
    by_cases q : k = n
    · have h' : halvesFrom t l r = some x := by
        simp only [halvesFrom, if_pos q] at h
        exact h
      have ih := halves_count r t l x a h'
      show (opens r).count a + (k :: t).count a + x.1.count a = (n :: closes r).count a + x.2.count a + l.count a
      rw [List.count_cons, List.count_cons, q]
      omega
    · simp only [halvesFrom, if_neg q] at h
      cases h
theorem pairM_iff : ∀ (r : Row) (s u : List Nat), pairM s u r = true ↔ halvesFrom s [] r = some ([], []) ∧ (marks r).Nodup ∧ ∀ m ∈ marks r, m ∉ u
  | [], s, u => by
    cases s with
    | nil => exact ⟨fun _ => ⟨rfl, List.nodup_nil, fun m hm => absurd hm (by simp [marks])⟩, fun _ => rfl⟩
    | cons k t =>
      refine ⟨fun h => Bool.noConfusion h, fun h => ?_⟩
      have := h.1
      simp [halvesFrom] at this
  | .char _ :: r, s, u => pairM_iff r s u
  | .open_ n :: r, s, u => by
    show (!u.contains n && pairM (n :: s) (n :: u) r) = true ↔ halvesFrom (n :: s) [] r = some ([], []) ∧ (n :: marks r).Nodup ∧ ∀ m ∈ n :: marks r, m ∉ u
    rw [Bool.and_eq_true, pairM_iff r (n :: s) (n :: u), List.nodup_cons]
    simp only [Bool.not_eq_true', List.contains_eq_mem, decide_eq_false_iff_not, List.mem_cons, not_or, forall_eq_or_imp]
    constructor
    · rintro ⟨h1, h2, h3, h4⟩
      exact ⟨h2, ⟨fun z => (h4 n z).1 rfl, h3⟩, h1, fun m hm => (h4 m hm).2⟩
    · rintro ⟨h2, ⟨h5, h3⟩, h1, h4⟩
      exact ⟨h1, h2, h3, fun m hm => ⟨fun z => h5 (z ▸ hm), h4 m hm⟩⟩
  | .alone n :: r, s, u => by
    show (!u.contains n && pairM s (n :: u) r) = true ↔ halvesFrom s [] r = some ([], []) ∧ (n :: marks r).Nodup ∧ ∀ m ∈ n :: marks r, m ∉ u
    rw [Bool.and_eq_true, pairM_iff r s (n :: u), List.nodup_cons]
    simp only [Bool.not_eq_true', List.contains_eq_mem, decide_eq_false_iff_not, List.mem_cons, not_or, forall_eq_or_imp]
    constructor
    · rintro ⟨h1, h2, h3, h4⟩
      exact ⟨h2, ⟨fun z => (h4 n z).1 rfl, h3⟩, h1, fun m hm => (h4 m hm).2⟩
    · rintro ⟨h2, ⟨h5, h3⟩, h1, h4⟩
      exact ⟨h1, h2, h3, fun m hm => ⟨fun z => h5 (z ▸ hm), h4 m hm⟩⟩
  | .close n :: r, [], u => by
    refine ⟨fun h => Bool.noConfusion h, fun h => ?_⟩
    obtain ⟨m, e⟩ := halves_grow r [] ([] ++ [n]) _ h.1
    simp at e
  | .close n :: r, k :: t, u => by
    show (k == n && pairM t u r) = true ↔ (if k = n then halvesFrom t [] r else none) = some ([], []) ∧ (marks r).Nodup ∧ ∀ m ∈ marks r, m ∉ u
    rw [Bool.and_eq_true, pairM_iff r t u, beq_iff_eq]
    by_cases q : k = n
    · rw [if_pos q]
      exact ⟨fun z => z.2, fun z => ⟨q, z⟩⟩
    · rw [if_neg q]
      exact ⟨fun z => absurd z.1 q, fun z => by cases z.1⟩
theorem marks_perm : ∀ (r : Row) (a : Nat), (marks r).count a = (opens r).count a + (alones r).count a
  | [], a => rfl
  | .char _ :: r, a => marks_perm r a
  | .close _ :: r, a => marks_perm r a
  | .open_ n :: r, a => by
    have := marks_perm r a
    show (n :: marks r).count a = (n :: opens r).count a + (alones r).count a
    rw [List.count_cons, List.count_cons]
    omega
  | .alone n :: r, a => by
    have := marks_perm r a
    show (n :: marks r).count a = (opens r).count a + (n :: alones r).count a
    rw [List.count_cons, List.count_cons]
    omega
theorem nodup_count {l : List Nat} : l.Nodup ↔ ∀ a, l.count a ≤ 1 := List.nodup_iff_count
theorem paired_is (r : Row) : paired r = pairM [] [] r := by
  have key : paired r = true ↔ pairM [] [] r = true := by
    rw [pairM_iff]
    unfold paired straight halves
    constructor
    · intro h
      rw [Bool.and_eq_true] at h
      obtain ⟨h1, h2⟩ := h
      have hh : halvesFrom [] [] r = some ([], []) := by simpa using h2
      rw [hh] at h1
      simp only [Bool.and_eq_true, decide_eq_true_eq] at h1
      obtain ⟨a1, a2, a3, a4, _⟩ := h1
      refine ⟨hh, nodup_count.mpr fun a => ?_, fun m _ => by simp⟩
      rw [marks_perm]
      have o1 := nodup_count.mp a1 a
      have o3 := nodup_count.mp a3 a
      by_cases z : a ∈ alones r
      · have := List.all_eq_true.mp a4 a z
        simp only [Bool.and_eq_true, Bool.not_eq_true', List.contains_eq_mem, decide_eq_false_iff_not] at this
        rw [List.count_eq_zero_of_not_mem this.1]
        omega
      · rw [List.count_eq_zero_of_not_mem z]
        omega
    · rintro ⟨hh, hn, _⟩
      rw [hh]
      have hc := fun a => nodup_count.mp hn a
      have hp := fun a => halves_count r [] [] _ a hh
      simp only [List.count_nil, Nat.add_zero] at hp
      simp only [Bool.and_eq_true, decide_eq_true_eq]
      refine ⟨⟨nodup_count.mpr fun a => ?_, nodup_count.mpr fun a => ?_, nodup_count.mpr fun a => ?_, List.all_eq_true.mpr fun n hm => ?_, rfl⟩, rfl⟩
      · have := hc a
        rw [marks_perm] at this
        omega
      · have := hc a
        rw [marks_perm] at this
        rw [← hp a]
        omega
      · have := hc a
        rw [marks_perm] at this
        omega
      · have h1 := hc n
        rw [marks_perm] at h1
        have h2 : 0 < (alones r).count n := List.count_pos_iff.mpr hm
        have h3 : (opens r).count n = 0 := by omega
        have h4 : (closes r).count n = 0 := by rw [← hp n]; exact h3
        simp only [Bool.and_eq_true, Bool.not_eq_true', List.contains_eq_mem, decide_eq_false_iff_not]
        exact ⟨fun z => absurd (List.count_pos_iff.mpr z) (by omega), fun z => absurd (List.count_pos_iff.mpr z) (by omega)⟩
  cases h1 : paired r with
  | true => exact (key.mp h1).symm
  | false =>
    cases h2 : pairM [] [] r with
    | true => rw [key.mpr h2] at h1; exact h1.symm
    | false => rfl
end Sg

/-! SgRw -/
set_option Elab.async false
set_option linter.all false
set_option maxRecDepth 100000
set_option maxHeartbeats 4000000
namespace Sg
open PySem PySem.Spec PyProof.Rows L2
structure TxW (mg : Str → Option Value) : Prop where
  left : ∃ t, mg "LEFT_BRACE" = some (.int 123 t)
  right : ∃ t, mg "RIGHT_BRACE" = some (.int 125 t)
  char : ∃ t, mg "CHARACTER" = some (.int 0 t)
  opens : ∃ t, mg "OPENS" = some (.int 43 t)
  closes : ∃ t, mg "CLOSES" = some (.int 45 t)
  lastT : ∃ t, mg "LAST_TAG" = some (.int 999 t)
  mostP : ∃ t, mg "MOST_PIECES" = some (.int 4096 t)
section
variable {P : Program} {w : World} {K : PySem.W.Frag} {mg : Str → Option Value} {base : Heap} {CF CR : Addr}
def pcT (x : Fh.Piece) : HO := .tup [.int (tagK x : Nat), .int (tagN x : Nat)]
/-! ### read_piece -/
def spPiece (CF CR : Addr) (K : PySem.W.Frag) : Sp := fun vs H Q E => ∃ (rd : Addr) (b : Fh.Bytes) (p : Nat), vs = [.ref rd] ∧ RdAt CR K H rd b p ∧
  Out (pieceM (b.drop p)) p (fun x q => Good CR K H rd b p q fun H' => ∀ t, Fresh H t → H' t = some (pcT x) → Q (.ref t) H') (Bad CF E)
theorem scPiece : FnScope ["reader", "kind", "number"] ["reader"] (defScope sPiece) := ⟨rfl, rfl, rfl, by decide +kernel, rfl, by decide +kernel, by decide +kernel⟩
theorem tagW_of {s n : Nat} (h : s = 43 ∨ s = 45 ∨ s = 46) : tagK (tagW s n) = s ∧ tagN (tagW s n) = n := by
  rcases h with rfl | rfl | rfl <;> exact ⟨rfl, rfl⟩
theorem ok_piece {f : Addr} {fd : FuncData} (F : Fun K "read_piece" "read_piece" sPiece f fd) (T : TxR K mg CR) (TN : TxN mg) (TW : TxW mg) (GL : MethOk P w K mg base CX0 3 CR "look" ["self"] (spLook CR K)) (GT : MethOk P w K mg base (L2N.CX P w) 4 CR "take" ["self", "wanted"] (spTake CF CR K))
    (GN : MethOk P w K mg base (L2N.CX P w) 4 CR "take_number" ["self", "ranges"] (spNumber CF CR K)) (GC : MethOk P w K mg base (L2N.CX P w) 4 CR "take_character" ["self"] (spChar CF CR K)) :
    FnOk P w K mg base (L2N.CX P w) 5 f fd ["reader"] (spPiece CF CR K) := by
  refine okN F scPiece (fun vs H Q E h => ?_) (fun cdv A outer s H vs Q E hr h => ?_)
  · obtain ⟨rd, b, p, rfl, _⟩ := h
    rfl
  · obtain ⟨rd, b, p, rfl, hR, hout⟩ := h
    have hr2 : Room 3 (A.deeper (envOfC (Str.ofString "read_piece") (defScope sPiece) s.heap.objs.size f cdv)) := hr.mono (by decide)
    refine ⟨_, pss_cons (ps_if (pt_cmpR op_ne (pe_m0 GL T.cl hr2 pass0 (pv 0)) (pe_k TW.left (by rfl)) (nomark _)) (pss_one (ps_ret (pe_tup (pa_cons (pe_k TW.char (by rfl)) (pa_cons (pe_m0 GC T.cl hr (passN rfl rfl rfl rfl) (pv 0)) pa_nil))))) pss_nil)
      (pss_cons (ps_expr (pe_m GT T.cl hr (passN rfl rfl rfl rfl) (pv 0) (by exact (pa_cons (pe_lst (pa_cons (pe_k TW.left (by rfl)) pa_nil)) pa_nil))))
      (pss_cons (ps_set (i := 1) scPiece.nd rfl (Or.inl rfl) (pe_m GT T.cl hr (passN rfl rfl rfl rfl) (pv 0) (by exact (pa_cons (pe_lst (pa_cons (pe_k TW.left (by rfl)) (pa_cons (pe_k TN.plus (by rfl)) (pa_cons (pe_k TN.hyphen (by rfl)) (pa_cons (pe_k TN.dot (by rfl)) pa_nil))))) pa_nil))))
      (pss_cons (ps_if (pt_cmpR op_eq (pv 1) (pe_k TW.left (by rfl)) (nomark _)) (pss_one (ps_ret (pe_tup (pa_cons (pe_k TW.char (by rfl)) (pa_cons (pe_k TW.left (by rfl)) pa_nil))))) pss_nil)
      (pss_cons (ps_set (i := 2) scPiece.nd rfl (Or.inl rfl) (pe_m GN T.cl hr (passN rfl rfl rfl rfl) (pv 0) (by exact (pa_cons (pe_lst (pa_cons (pe_tup (pa_cons pe_int (pa_cons (pe_k TW.lastT (by rfl)) pa_nil))) pa_nil)) pa_nil))))
      (pss_cons (ps_expr (pe_m GT T.cl hr (passN rfl rfl rfl rfl) (pv 0) (by exact (pa_cons (pe_lst (pa_cons (pe_k TW.right (by rfl)) pa_nil)) pa_nil))))
      (pss_one (ps_ret (pe_tup (pa_cons (pv 1) (pa_cons (pv 2) pa_nil)))))))))), ?_⟩
    have two : 2 ≤ sizeLine := by decide
    unfold pieceM at hout
    refine t_lookN (n := 123) rfl hR (fun e => iteF ?_) (fun e => iteT ?_)
    · rw [if_neg (fun z => z e), drop_more, drop_more] at hout
      refine m_take1 (n := 123) (E := E) (by omega) rfl hR (fun _ H1 hR1 l1 hK1 => ?_) (fun e1 => absurd e e1)
      refine m_take [123, 43, 45, 46] (E := E) rfl hR1 (fun n hn => ?_) (by simp) (fun Q' q => q) (fun q H2 hR2 l2 hK2 => ?_) (fun q => ?_)
      · simp at hn
        omega
      · have hK12 := hK1.trans hK2
        by_cases e1 : lk (b.drop (p + 1)) = 123
        · rw [if_pos e1] at hout
          refine ⟨_, rfl, rfl, _, rfl, ?_⟩
          rw [e1]
          refine iteT ⟨two, fun t ht => ?_⟩
          exact hout _ (hR2.same (same_new ht)) (by omega) (hK12.trans (Kp.new ht)) t (fresh_of hR2 hK12 t ht) upd_same
        · rw [if_neg e1] at hout
          have e3 : lk (b.drop (p + 1)) = 43 ∨ lk (b.drop (p + 1)) = 45 ∨ lk (b.drop (p + 1)) = 46 := by
            simp at q
            omega
          rw [if_pos e3] at hout
          refine ⟨_, rfl, rfl, _, rfl, ?_⟩
          rw [show decide (V.int (lk (b.drop (p + 1)) : Nat) = V.int 123) = false from (decI (b := 123)).trans (decide_eq_false e1)]
          refine iteF ?_
          refine m_number (lo := 1) (hi := 999) (E := E) rfl hR2 (by decide) (fun Q' q => q) (fun Q' q => q) ?_
          rw [show p + 1 + 1 = p + 2 by omega] at hR2 l2 ⊢
          revert hout
          cases num 1 999 (b.drop (p + 2)) with
          | error k =>
            intro hout
            show Bad CF E (p + 2 + k)
            rw [show p + 2 + k = p + (2 + k) by omega]
            exact hout
          | ok x =>
            intro hout H3 hR3 l3 hK3
            replace hout : Out (if lk (b.drop (p + (2 + x.2))) = 125 then Except.ok (tagW (lk (b.drop (p + 1))) x.1, 3 + x.2) else Except.error (2 + x.2)) p (fun x q => Good CR K H rd b p q fun H' => ∀ t, Fresh H t → H' t = some (pcT x) → Q (.ref t) H') (Bad CF E) := by
              rw [← drop_more]
              exact hout
            rw [show p + (2 + x.2) = p + 2 + x.2 by omega] at hout
            refine m_take1 (n := 125) (E := E) (by omega) rfl hR3 (fun e5 H4 hR4 l4 hK4 => ?_) (fun e5 => ?_)
            · rw [if_pos e5] at hout
              have hK := (hK12.trans hK3).trans hK4
              refine ⟨_, rfl, _, rfl, two, fun t ht => ?_⟩
              obtain ⟨g1, g2⟩ := tagW_of (n := x.1) e3
              refine hout _ ?_ (by show p < p + (3 + x.2); omega) (hK.trans (Kp.new ht)) t (fresh_of hR4 hK t ht) ?_
              · show RdAt CR K _ rd b (p + (3 + x.2))
                rw [show p + (3 + x.2) = p + 2 + x.2 + 1 by omega]
                exact hR4.same (same_new ht)
              · unfold pcT
                rw [g1, g2]
                exact upd_same
            · rw [if_neg e5] at hout
              show Bad CF E (p + 2 + x.2)
              rw [show p + 2 + x.2 = p + (2 + x.2) by omega]
              exact hout
      · have e1 : ¬ lk (b.drop (p + 1)) = 123 := fun z => q (by rw [z]; simp)
        have e3 : ¬ (lk (b.drop (p + 1)) = 43 ∨ lk (b.drop (p + 1)) = 45 ∨ lk (b.drop (p + 1)) = 46) := by
          rintro (z | z | z) <;> exact q (by rw [z]; simp)
        rw [if_neg e1, if_neg e3] at hout
        exact hout
    · rw [if_pos e] at hout
      obtain ⟨⟨a, dx, h1, h2⟩, _⟩ := id hR
      refine ⟨_, rfl, rd, dx, _, rfl, h1, rdF_no _ _ (by decide +kernel) (by decide +kernel), rd, b, p, rfl, hR, ?_⟩
      revert hout
      cases Fh.charHere (b.drop p) with
      | error k => exact fun hout => hout
      | ok x =>
        intro hout H1 hR1 l1 hK1
        refine ⟨two, fun t ht => ?_⟩
        exact hout _ (hR1.same (same_new ht)) l1 (hK1.trans (Kp.new ht)) t (fresh_of hR1 hK1 t ht) upd_same
end
end Sg

/-! SgText -/
set_option Elab.async false
set_option linter.all false
namespace Sg
open Fh
/-! ### a piece's text is what it was read of -/
theorem u8_of (n : Nat) (c : UInt8) (h : n = c.toNat) : UInt8.ofNat n = c := by
  apply UInt8.toNat_inj.mp
  rw [UInt8.toNat_ofNat', h]
  have := c.toNat_lt
  omega
theorem decimal_snoc (v k : Nat) (hv : 1 ≤ v) (hk : k < 10) : decimal (10 * v + k) = decimal v ++ [UInt8.ofNat (48 + k)] := by
  unfold decimal
  rw [← Nat.toDigits_append_toDigits (by omega : 1 < 10) (by omega : 0 < v) hk, List.map_append]
  congr 1
  have h : ∀ k : Fin 10, (Nat.toDigits 10 k.val).map (fun (c : Char) => UInt8.ofNat c.toNat) = [UInt8.ofNat (48 + k.val)] := by decide
  exact h ⟨k, hk⟩
theorem decimal_one (k : Nat) (hk : k < 10) : decimal k = [UInt8.ofNat (48 + k)] := by
  have h : ∀ k : Fin 10, decimal k.val = [UInt8.ofNat (48 + k.val)] := by decide
  exact h ⟨k, hk⟩
theorem digit_u8 (c : UInt8) (h1 : 48 ≤ c.toNat) : UInt8.ofNat (48 + (c.toNat - 48)) = c := u8_of _ _ (by omega)
theorem digits_text : ∀ (d : Bytes) (n v x m : Nat), 1 ≤ n → 1 ≤ v → digitsHere n v d = .ok (x, m) → n ≤ m ∧ m - n + 1 ≤ d.length ∧ decimal v ++ d.take (m - n + 1) = decimal x ++ [125]
  | [], n, v, x, m, hn, hv, h => by
    unfold digitsHere at h
    cases h
  | c :: r, n, v, x, m, hn, hv, h => by
    unfold digitsHere at h
    rw [if_neg (by omega)] at h
    by_cases hc : c = 125
    · rw [if_pos hc] at h
      cases h
      rw [hc]
      exact ⟨Nat.le_refl _, by simp, by simp⟩
    · rw [if_neg hc] at h
      by_cases hd : n < 3 ∧ isDigit c = true
      · rw [if_pos hd] at h
        have hdig : 48 ≤ c.toNat ∧ c.toNat ≤ 57 := by
          have := hd.2
          unfold isDigit at this
          rw [Bool.and_eq_true, decide_eq_true_eq, decide_eq_true_eq] at this
          exact ⟨UInt8.le_iff_toNat_le.mp this.1, UInt8.le_iff_toNat_le.mp this.2⟩
        cases hq : digitsHere (n + 1) (10 * v + (c.toNat - 48)) r with
        | error k => rw [hq] at h; cases h
        | ok y =>
          rw [hq] at h
          cases h
          obtain ⟨h1, h2, h3⟩ := digits_text r (n + 1) (10 * v + (c.toNat - 48)) x m (by omega) (by omega) hq
          rw [decimal_snoc v _ hv (by omega), digit_u8 c hdig.1] at h3
          refine ⟨by omega, by rw [List.length_cons]; omega, ?_⟩
          rw [show m - n + 1 = (m - (n + 1) + 1) + 1 by omega, List.take_succ_cons, ← h3]
          simp
      · rw [if_neg hd] at h
        cases h
theorem digits_text0 (d : Bytes) (x m : Nat) (h : digitsHere 0 0 d = .ok (x, m)) : m + 1 ≤ d.length ∧ d.take (m + 1) = decimal x ++ [125] := by
  cases d with
  | nil => unfold digitsHere at h; cases h
  | cons c r =>
    unfold digitsHere at h
    rw [if_pos rfl] at h
    by_cases hc : 49 ≤ c.toNat ∧ c.toNat ≤ 57
    · rw [if_pos hc] at h
      cases hq : digitsHere 1 (c.toNat - 48) r with
      | error k => rw [hq] at h; cases h
      | ok y =>
        rw [hq] at h
        cases h
        obtain ⟨h1, h2, h3⟩ := digits_text r 1 (c.toNat - 48) x m (by omega) (by omega) hq
        rw [decimal_one _ (by omega), digit_u8 c (by omega)] at h3
        refine ⟨by rw [List.length_cons]; omega, ?_⟩
        rw [show m + 1 = (m - 1 + 1) + 1 by omega, List.take_succ_cons, ← h3]
        rfl
    · rw [if_neg hc] at h
      cases h
theorem goOn_step {f n k v : Nat} {b : Bytes} {x : Nat} (hk : k ≠ n) (h : goOn (f + 1) n k v b = .ok x) : ∃ c r, b = c :: r ∧ c.toNat / 64 = 2 ∧ mayBe n (k + 1) (v * 64 + c.toNat % 64) = true ∧ goOn f n (k + 1) (v * 64 + c.toNat % 64) r = .ok x := by
  cases b with
  | nil => rw [goOn_nil _ _ _ _ hk] at h; cases h
  | cons c r =>
    rw [goOn_cons _ _ _ _ _ _ hk] at h
    by_cases hc : c.toNat / 64 = 2 ∧ mayBe n (k + 1) (v * 64 + c.toNat % 64) = true
    · rw [if_pos hc] at h
      exact ⟨c, r, rfl, hc.1, hc.2, h⟩
    · rw [if_neg hc] at h
      cases h
theorem char_text {b : Bytes} {v n : Nat} (h : charHere b = .ok (v, n)) : n ≤ b.length ∧ 1 ≤ n ∧ b.take n = utf8 v ∧ (lk b < 128 → v = lk b) ∧ (128 ≤ lk b → 128 ≤ v) := by
  cases b with
  | nil => cases h
  | cons c r =>
    rw [charHere_cons] at h
    by_cases hb : lengthBy c.toNat = 0 ∨ mayBe (lengthBy c.toNat) 1 (headOf (lengthBy c.toNat) c.toNat) = false
    · rw [if_pos hb] at h
      cases h
    · rw [if_neg hb] at h
      have hlk : lk (c :: r) = c.toNat := rfl
      cases hg : goOn 4 (lengthBy c.toNat) 1 (headOf (lengthBy c.toNat) c.toNat) r with
      | error k => rw [hg] at h; cases h
      | ok x =>
        rw [hg] at h
        cases h
        have hc256 := c.toNat_lt
        have hcases : lengthBy c.toNat = 1 ∧ c.toNat < 128 ∨ lengthBy c.toNat = 2 ∧ 192 ≤ c.toNat ∧ c.toNat < 224 ∨ lengthBy c.toNat = 3 ∧ 224 ≤ c.toNat ∧ c.toNat < 240 ∨ lengthBy c.toNat = 4 ∧ 240 ≤ c.toNat ∧ c.toNat < 248 := by
          have h0 : lengthBy c.toNat ≠ 0 := fun z => hb (.inl z)
          revert h0
          unfold lengthBy
          split
          · omega
          · split
            · omega
            · split
              · omega
              · split
                · omega
                · split <;> omega
        rcases hcases with ⟨hn, hr⟩ | ⟨hn, hr⟩ | ⟨hn, hr⟩ | ⟨hn, hr⟩ <;> rw [hn] at hg ⊢
        · rw [show headOf 1 c.toNat = c.toNat from rfl, goOn_done] at hg
          cases hg
          refine ⟨by simp, by omega, ?_, fun _ => hlk.symm, fun z => (by rw [hlk] at z; omega)⟩
          unfold utf8
          rw [if_pos (by omega), u8_of _ c rfl]
          rfl
        · obtain ⟨d, r2, rfl, hd, hm, hg⟩ := goOn_step (by omega) hg
          rw [show headOf 2 c.toNat = c.toNat % 32 from rfl] at hg hm
          rw [goOn_done] at hg
          cases hg
          have hm2 := (mayBe_end 2 _).mp hm
          rw [len2.1, len2.2] at hm2
          have hd256 := d.toNat_lt
          refine ⟨by simp, by omega, ?_, fun z => (by rw [hlk] at z; omega), fun _ => hm2.1⟩
          unfold utf8
          rw [if_neg (by omega), if_pos (by omega), u8_of _ c (by omega), u8_of _ d (by omega)]
          rfl
        · obtain ⟨d, r2, rfl, hd, hm, hg⟩ := goOn_step (by omega) hg
          obtain ⟨e, r3, rfl, he, hm2, hg⟩ := goOn_step (by omega) hg
          rw [show headOf 3 c.toNat = c.toNat % 16 from rfl] at hg hm hm2
          rw [goOn_done] at hg
          cases hg
          have hm3 := (mayBe_end 3 _).mp hm2
          rw [len3.1, len3.2] at hm3
          have hd256 := d.toNat_lt
          have he256 := e.toNat_lt
          refine ⟨by simp, by omega, ?_, fun z => (by rw [hlk] at z; omega), fun _ => (by omega)⟩
          unfold utf8
          rw [if_neg (by omega), if_neg (by omega), if_pos (by omega), u8_of _ c (by omega), u8_of _ d (by omega), u8_of _ e (by omega)]
          rfl
        · obtain ⟨d, r2, rfl, hd, hm, hg⟩ := goOn_step (by omega) hg
          obtain ⟨e, r3, rfl, he, hm2, hg⟩ := goOn_step (by omega) hg
          obtain ⟨g, r4, rfl, hge, hm3, hg⟩ := goOn_step (by omega) hg
          rw [show headOf 4 c.toNat = c.toNat % 8 from rfl] at hg hm hm2 hm3
          rw [goOn_done] at hg
          cases hg
          have hm4 := (mayBe_end 4 _).mp hm3
          rw [(lenB 0).1, (lenB 0).2] at hm4
          have hd256 := d.toNat_lt
          have he256 := e.toNat_lt
          have hg256 := g.toNat_lt
          refine ⟨by simp, by omega, ?_, fun z => (by rw [hlk] at z; omega), fun _ => (by omega)⟩
          unfold utf8
          rw [if_neg (by omega), if_neg (by omega), if_neg (by omega), u8_of _ c (by omega), u8_of _ d (by omega), u8_of _ e (by omega), u8_of _ g (by omega)]
          rfl
theorem piece_text {b : Bytes} {x : Piece × Nat} (h : pieceHere b = .ok x) : x.2 ≤ b.length ∧ 1 ≤ x.2 ∧ b.take x.2 = x.1.text := by
  cases b with
  | nil => cases h
  | cons c r =>
    unfold pieceHere at h
    dsimp only at h
    by_cases hc : c = 123
    · rw [if_pos hc] at h
      subst hc
      cases r with
      | nil => cases h
      | cons s d =>
        dsimp only at h
        by_cases hs : s = 123
        · rw [if_pos hs] at h
          cases h
          subst hs
          exact ⟨by simp, by simp, rfl⟩
        · rw [if_neg hs] at h
          by_cases ht : s = 43 ∨ s = 45 ∨ s = 46
          · rw [if_pos ht] at h
            cases hq : digitsHere 0 0 d with
            | error k => rw [hq] at h; cases h
            | ok y =>
              rw [hq] at h
              cases h
              obtain ⟨h1, h2⟩ := digits_text0 d y.1 y.2 hq
              refine ⟨by simp only [List.length_cons]; omega, by dsimp only; omega, ?_⟩
              dsimp only
              rw [show y.2 + 3 = (y.2 + 1) + 1 + 1 by omega, List.take_succ_cons, List.take_succ_cons, h2]
              rcases ht with rfl | rfl | rfl <;> rfl
          · rw [if_neg ht] at h
            cases h
    · rw [if_neg hc] at h
      cases hq : charHere (c :: r) with
      | error k => rw [hq] at h; cases h
      | ok y =>
        rw [hq] at h
        cases h
        obtain ⟨h1, h2, h3, h4, h5⟩ := char_text hq
        refine ⟨h1, h2, ?_⟩
        dsimp only
        rw [h3]
        show utf8 y.1 = if y.1 = 123 then [123, 123] else utf8 y.1
        rw [if_neg]
        intro z
        have hlk : lk (c :: r) = c.toNat := rfl
        rw [hlk] at h4 h5
        by_cases q : c.toNat < 128
        · have := h4 q
          exact hc ((u8_of 123 c (by omega)).symm)
        · have := h5 (by omega)
          omega
theorem piece_lk {b : Bytes} {x : Piece × Nat} (h : pieceHere b = .ok x) : lk b ≠ 0 := by
  intro z
  cases b with
  | nil => cases h
  | cons c r =>
    have hlk : lk (c :: r) = c.toNat := rfl
    rw [hlk] at z
    unfold pieceHere at h
    dsimp only at h
    rw [if_neg (fun q => by rw [q] at z; exact absurd z (by decide)), charHere_cons, z, if_pos (.inr (by decide))] at h
    cases h
theorem rowText_app (a b : Row) : rowText (a ++ b) = rowText a ++ rowText b := by
  unfold rowText
  rw [List.flatMap_append]
theorem rowText_one (p : Piece) : rowText [p] = p.text := by
  unfold rowText
  simp
theorem rowFrom_text : ∀ (f p : Nat) (l : Row) (b : Bytes) (r : Row), rowFrom f p l b = .ok r → rowText r = rowText l.reverse ++ b
  | f, p, l, [], r, h => by
    have : rowFrom f p l [] = .ok l.reverse := by cases f <;> rfl
    rw [this] at h
    cases h
    simp
  | 0, p, l, c :: b, r, h => by
    cases h
  | f + 1, p, l, c :: b, r, h => by
    unfold rowFrom at h
    cases hq : pieceHere (c :: b) with
    | error k => rw [hq] at h; cases h
    | ok x =>
      rw [hq] at h
      obtain ⟨h1, h2, h3⟩ := piece_text hq
      have ih := rowFrom_text f (p + x.2) (x.1 :: l) ((c :: b).drop x.2) r h
      rw [ih, List.reverse_cons, rowText_app, rowText_one, ← h3, List.append_assoc, List.take_append_drop]
theorem rowRead_text {b : Bytes} {r : Row} (h : rowRead b = .ok r) : rowText r = b := by
  have := rowFrom_text _ _ _ _ _ h
  simpa [rowText] using this
/-- where each piece of a row begins in its text, and where the last one ends -/
def startsOf (r : Row) : List Nat := (List.range (r.length + 1)).map fun i => (rowText (r.take i)).length
theorem startsOf_len (r : Row) : (startsOf r).length = r.length + 1 := by
  unfold startsOf
  rw [List.length_map, List.length_range]
theorem startsOf_at {r : Row} {i : Nat} (h : i ≤ r.length) : (startsOf r)[i]? = some (rowText (r.take i)).length := by
  unfold startsOf
  rw [List.getElem?_map, List.getElem?_range (by omega)]
  rfl
theorem startsOf_snoc (r : Row) (p : Piece) : startsOf (r ++ [p]) = startsOf r ++ [(rowText (r ++ [p])).length] := by
  unfold startsOf
  rw [List.length_append, List.length_cons, List.length_nil, List.range_succ, List.map_append]
  congr 1
  · refine List.map_congr_left fun i hi => ?_
    rw [List.mem_range] at hi
    rw [List.take_append_of_le_length (by omega)]
  · rw [List.map_cons, List.map_nil, List.take_of_length_le (by simp)]
theorem text_cut (r : Row) (i j : Nat) (hij : i ≤ j) (hj : j ≤ r.length) : ((rowText r).take (rowText (r.take j)).length).drop (rowText (r.take i)).length = rowText ((r.take j).drop i) := by
  have e1 : rowText r = rowText (r.take j) ++ rowText (r.drop j) := by rw [← rowText_app, List.take_append_drop]
  have e2 : rowText (r.take j) = rowText (r.take i) ++ rowText ((r.take j).drop i) := by
    rw [← rowText_app]
    congr 1
    have := List.take_append_drop i (r.take j)
    rw [List.take_take, Nat.min_eq_left hij] at this
    exact this.symm
  rw [e1, List.take_left, e2, List.drop_left]
end Sg

/-! SgRw2 -/
set_option Elab.async false
set_option linter.all false
set_option maxRecDepth 100000
set_option maxHeartbeats 4000000
namespace Sg
open PySem PySem.Spec PyProof.Rows L2
/-! ### Row -/
def woF (a l s : V) : List (Str × V) := [("text", a), ("pieces", l), ("starts", s)]
theorem woF_new (a l s : V) : putF "starts" s (putF "pieces" l (putF "text" a [])) = woF a l s := by
  show putF "starts" s (putF "pieces" l [("text", a)]) = _
  rw [put_past (by decide +kernel)]
  show putF "starts" s [("text", a), ("pieces", l)] = _
  rw [put_past (by decide +kernel), put_past (by decide +kernel)]
  rfl
theorem woF_1 (a l s : V) : (woF a l s).lookup ("text" : Str) = some a := lk_here
theorem woF_2 (a l s : V) : (woF a l s).lookup ("pieces" : Str) = some l := (lk_past (by decide +kernel)).trans lk_here
theorem woF_3 (a l s : V) : (woF a l s).lookup ("starts" : Str) = some s := (lk_past (by decide +kernel)).trans ((lk_past (by decide +kernel)).trans lk_here)
structure TxO (K : PySem.W.Frag) (CW : Addr) : Prop where
  cl : Cls K CW
  n1 : NoAttr K CW "text"
  n2 : NoAttr K CW "pieces"
  n3 : NoAttr K CW "starts"
def spRowI (CW : Addr) : Sp := fun vs H Q _ => ∃ (p dx : Addr) (a l s : V), vs = [.ref p, a, l, s] ∧ H p = some (.ins CW dx []) ∧ ∀ H' : Hp, H' p = some (.ins CW dx (woF a l s)) → (∀ b o, H b = some o → b ≠ p → H' b = some o) → Q .non H'
section
variable {P : Program} {w : World} {K : PySem.W.Frag} {mg : Str → Option Value} {base : Heap} {CF CR CW : Addr}
theorem scRowI : FnScope ["self", "text", "pieces", "starts"] ["self", "text", "pieces", "starts"] (defScope sRowI) := ⟨rfl, rfl, rfl, by decide +kernel, rfl, by decide +kernel, by decide +kernel⟩
theorem ok_rowI {f : Addr} {fd : FuncData} (F : Fun K "__init__" "Row.__init__" sRowI f fd) (T : TxO K CW) : FnOk P w K mg base CX0 2 f fd ["self", "text", "pieces", "starts"] (spRowI CW) := by
  refine F.ok scRowI (fun vs H Q E h => ?_) (fun cdv A outer s H vs Q E hr h => ?_)
  · obtain ⟨p, dx, a, l, s, rfl, _⟩ := h
    rfl
  · obtain ⟨p, dx, a, l, st, rfl, hp, q⟩ := h
    refine ⟨_, pss_cons (ps_fld (pv 0) (pv 1) rfl) (pss_cons (ps_fld (pv 0) (pv 2) rfl) (pss_one (ps_fld (pv 0) (pv 3) rfl))), ?_⟩
    refine ⟨_, rfl, _, rfl, p, CW, dx, [], rfl, hp, T.cl, T.n1, (by show 0 < 1000; decide), _, rfl, _, rfl, p, CW, dx, _, rfl, upd_same, T.cl, T.n2, (by show 1 < 1000; decide), ?_⟩
    refine ⟨_, rfl, _, rfl, p, CW, dx, _, rfl, upd_same, T.cl, T.n3, (by show 2 < 1000; decide), ?_⟩
    refine q _ (Eq.trans upd_same (congrArg (fun q => some (HO.ins CW dx q)) (woF_new a l st))) fun b o e hb => ?_
    rw [upd_ne hb, upd_ne hb, upd_ne hb]
    exact e
/-- the pieces in a list -/
def RowAt (F : Addr → Prop) (H : Hp) (x : Addr) (r : Fh.Row) : Prop := F x ∧ ∃ xs : List Addr, H x = some (.lst (xs.map V.ref)) ∧ Paired (fun (y : Addr) (p : Fh.Piece) => F y ∧ H y = some (pcT p)) xs r
theorem RowAt.keep {F : Addr → Prop} {H H' : Hp} {x : Addr} {r : Fh.Row} (h : RowAt F H x r) (g : ∀ b o, F b → H b = some o → H' b = some o) : RowAt F H' x r := by
  obtain ⟨h1, xs, h2, h3⟩ := h
  exact ⟨h1, xs, g _ _ h1 h2, h3.mono fun _ _ z => ⟨z.1, g _ _ z.1 z.2⟩⟩
theorem RowAt.imp {F G : Addr → Prop} {H : Hp} {x : Addr} {r : Fh.Row} (h : RowAt F H x r) (g : ∀ b, F b → G b) : RowAt G H x r := by
  obtain ⟨h1, xs, h2, h3⟩ := h
  exact ⟨g _ h1, xs, h2, h3.mono fun _ _ z => ⟨g _ z.1, z.2⟩⟩
/-- a Row: its text at a begins at the place f in b -/
def RowO (CW : Addr) (K : PySem.W.Frag) (F : Addr → Prop) (H : Hp) (x a : Addr) (b : Fh.Bytes) (f : Nat) (r : Fh.Row) : Prop :=
  F x ∧ ∃ dx l s, H x = some (.ins CW dx (woF (.ref a) (.ref l) (.ref s))) ∧ RowAt F H l r ∧ F s ∧ H s = some (.lst (nvs ((startsOf r).map fun n => f + n))) ∧ SqL K H a (bv b) ∧ f ≤ b.length ∧ Fh.rowText r <+: b.drop f
theorem RowO.keep {F : Addr → Prop} {H H' : Hp} {x a : Addr} {b : Fh.Bytes} {f : Nat} {r : Fh.Row} (h : RowO CW K F H x a b f r) (g : ∀ b o, F b → H b = some o → H' b = some o) (q : SqL K H a (bv b) → SqL K H' a (bv b)) : RowO CW K F H' x a b f r := by
  obtain ⟨h1, dx, l, s, h2, h3, h4, h5, h6, h7⟩ := h
  exact ⟨h1, dx, l, s, g _ _ h1 h2, h3.keep g, h4, g _ _ h4 h5, q h6, h7⟩
theorem RowO.same {F : Addr → Prop} {H H' : Hp} {x a : Addr} {b : Fh.Bytes} {f : Nat} {r : Fh.Row} (h : RowO CW K F H x a b f r) (s : Same H H') : RowO CW K F H' x a b f r := h.keep (fun c o _ e => s c o e) fun z => s.seq z
theorem RowO.imp {F G : Addr → Prop} {H : Hp} {x a : Addr} {b : Fh.Bytes} {f : Nat} {r : Fh.Row} (h : RowO CW K F H x a b f r) (g : ∀ b, F b → G b) : RowO CW K G H x a b f r := by
  obtain ⟨h1, dx, l, s, h2, h3, h4, h5, h6, h7⟩ := h
  exact ⟨g _ h1, dx, l, s, h2, h3.imp g, g _ h4, h5, h6, h7⟩
theorem pre_drop {l m : Fh.Bytes} (h : l <+: m) (n : Nat) : l.drop n <+: m.drop n := by
  obtain ⟨t, rfl⟩ := h
  rw [List.drop_append]
  exact ⟨_, rfl⟩
theorem bv_starts {b : Fh.Bytes} {f : Nat} {l : Fh.Row} (h1 : f + l.length < b.length) (h : f = 0 → lk b ≠ 0) : ∀ full : Fh.Bytes, b <+: full → bv full ≠ nvs ((startsOf l).map fun n => f + n) := fun full hp z => by
  have hl := hp.length_le
  by_cases q : f = 0
  · have e := congrArg (fun m : List V => m[0]?) z
    have e : (bv full)[0]? = (nvs ((startsOf l).map fun n => f + n))[0]? := e
    have e1 := bv_pre (p := 0) hp (by omega)
    rw [List.drop_zero] at e1
    rw [e1] at e
    unfold nvs at e
    rw [List.getElem?_map, List.getElem?_map, startsOf_at (Nat.zero_le _)] at e
    have e2 : V.int ((lk b : Nat) : Int) = V.int ((f + 0 : Nat) : Int) := Option.some.inj e
    have e3 := V.int.inj e2
    have := h q
    omega
  · have := congrArg List.length z
    rw [bv_len, nvs_len, List.length_map, startsOf_len] at this
    omega
/-! ### read_row -/
/-- the bytes of a row that stands in others -/
abbrev inB (full : Fh.Bytes) (f e : Nat) : Fh.Bytes := (full.take e).drop f
def spRow (CF CW : Addr) (K : PySem.W.Frag) : Sp := fun vs H Q E => ∃ (a : Addr) (full : Fh.Bytes) (f e : Nat), vs = [.ref a, .int (f : Nat), .int (e : Nat)] ∧ SqL K H a (bv full) ∧ f ≤ e ∧ e ≤ full.length ∧ full.length ≤ 262144 ∧
  (∀ k, Fh.rowRead (inB full f e) = .error k → Bad CF E (f + k)) ∧ ∀ r, Fh.rowRead (inB full f e) = .ok r → r.length ≤ e - f → ∀ (H' : Hp) (x : Addr), Same H H' → RowO CW K (Fresh H) H' x a full f r → Q (.ref x) H'
theorem scRow : FnScope ["text", "first", "behind", "reader", "pieces", "starts"] ["text", "first", "behind"] (defScope sRow) := ⟨rfl, rfl, rfl, by decide +kernel, rfl, by decide +kernel, by decide +kernel⟩
theorem rowFrom_nil (g n : Nat) (l : Fh.Row) : Fh.rowFrom g n l [] = .ok l.reverse := by
  cases g <;> rfl
theorem ok_row {f : Addr} {fd : FuncData} (F : Fun K "read_row" "read_row" sRow f fd) (T : TxR K mg CR) (GE : MethOk P w K mg base CX0 2 CR "ended" ["self"] (spEnded CR K)) (GR : NewOk P w K mg base 2 "Reader" CR ["self", "text", "first", "behind"] (spRdI CR))
    (GP : CallOk P w K mg base (L2N.CX P w) 5 "read_piece" ["reader"] (spPiece CF CR K)) (GW : NewOk P w K mg base 2 "Row" CW ["self", "text", "pieces", "starts"] (spRowI CW)) :
    FnOk P w K mg base (L2N.CX P w) 6 f fd ["text", "first", "behind"] (spRow CF CW K) := by
  refine okN F scRow (fun vs H Q E h => ?_) (fun cdv A outer s H vs Q E hr h => ?_)
  · obtain ⟨a, full, f, e, rfl, _⟩ := h
    rfl
  · obtain ⟨a, full, f0, e0, rfl, hS, hfe, hel, hfl, bad, good⟩ := h
    -- b: up to the row's end; c: the row's own bytes
    obtain ⟨b, hbd⟩ : ∃ b : Fh.Bytes, b = full.take e0 := ⟨_, rfl⟩
    have hbl : b.length = e0 := by rw [hbd, List.length_take]; omega
    have hb : b.length ≤ 262144 := by omega
    have hpre : b <+: full := by rw [hbd]; exact List.take_prefix ..
    obtain ⟨c, hcd⟩ : ∃ c : Fh.Bytes, c = b.drop f0 := ⟨_, rfl⟩
    have hcl : c.length = e0 - f0 := by rw [hcd, List.length_drop]; omega
    have hin : inB full f0 e0 = c := by rw [hcd, hbd]
    rw [hin] at bad good
    have hcn : ∀ n, b.drop (f0 + n) = c.drop n := fun n => by rw [hcd, List.drop_drop]
    have hr1 : Room 2 (A.deeper (envOfC (Str.ofString "read_row") (defScope sRow) s.heap.objs.size f cdv)) := hr.mono (by decide)
    have hr2 : Room 3 (A.deeper (envOfC (Str.ofString "read_row") (defScope sRow) s.heap.objs.size f cdv)) := hr.mono (by decide)
    refine ⟨_, pss_cons (ps_set (i := 3) scRow.nd rfl (Or.inl rfl) (pe_mk GR hr2 (by rfl) (by exact (pa_cons (pv 0) (pa_cons (pv 1) (pa_cons (pv 2) pa_nil))))))
      (pss_cons (ps_set (i := 4) scRow.nd rfl (Or.inl rfl) (pe_lst pa_nil))
      (pss_cons (ps_set (i := 5) scRow.nd rfl (Or.inl rfl) (pe_lst (pa_cons (pv 1) pa_nil)))
      (pss_cons (ps_while (passes_of rfl) (pt_not (pt_val (pe_m0 GE T.cl hr1 pass0 (pv 3))))
        (pss_cons (ps_expr (pe_bm PySem.F.plainAttrs_list PySem.F.slot_list_append PySem.F.type_list_append mt_append (pv 4) (pa_cons (pe_c GP hr (by rfl) (passN rfl rfl rfl rfl) (by exact (pa_cons (pv 3) pa_nil))) pa_nil)))
          (pss_one (ps_expr (pe_bm PySem.F.plainAttrs_list PySem.F.slot_list_append PySem.F.type_list_append mt_append (pv 5) (pa_cons (pe_fld (pv 3) rfl) pa_nil))))))
      (pss_one (ps_ret (pe_mk GW hr2 (by rfl) (by exact (pa_cons (pv 0) (pa_cons (pv 4) (pa_cons (pv 5) pa_nil)))))))))), ?_⟩
    refine ⟨_, rfl, _, rfl, _, rfl, fun rd dx nrd ndx nne => ⟨rd, dx, a, f0, e0, rfl, upd_same, fun H1 h1 k1 => ⟨rfl, ?_⟩⟩⟩
    have s1 : Same H H1 := Same.made nrd ndx k1
    have hR1 : RdAt CR K H1 rd b (f0 + 0) := ⟨⟨a, dx, by rw [hbl]; exact h1, full, s1.seq hS, hpre⟩, by omega, hb⟩
    refine ⟨(by show 0 ≤ sizeLine; decide), fun L hL => ?_⟩
    refine ⟨_, rfl, (by show 1 ≤ sizeLine; decide), fun S hSn => ?_⟩
    have hSL : S ≠ L := (fresh_new hSn).1
    have hS1 : H1 S = none := (fresh_new hSn).2
    have hrd1 : ∀ c o, H c = some o → c ≠ rd := fun c o e z => by
      rw [z, nrd] at e
      cases e
    have fr1 : ∀ c, Fresh H1 c → Fresh H c := fun c hc => s1.free hc
    have s01 : Same H1 (upd (upd H1 L (.lst [])) S (.lst [V.int (f0 : Nat)])) := (same_new hL).trans (same_new hSn)
    refine ⟨fun m σ H' => ∃ (n g : Nat) (rs : Fh.Row) (xs : List Addr), σ = [some (.ref a), some (.int (f0 : Nat)), some (.int (e0 : Nat)), some (.ref rd), some (.ref L), some (.ref S)] ∧ RdAt CR K H' rd b (f0 + n) ∧ Kp rd H1 H' ∧ H' L = some (.lst (xs.map V.ref)) ∧ H' S = some (.lst (nvs ((startsOf rs.reverse).map fun n => f0 + n))) ∧ n = (Fh.rowText rs.reverse).length ∧
        Paired (fun (y : Addr) (p : Fh.Piece) => Fresh (upd (upd H1 L (.lst [])) S (.lst [V.int (f0 : Nat)])) y ∧ H' y = some (pcT p)) xs rs.reverse ∧ (c.drop n).length ≤ g ∧ Fh.rowFrom g n rs (c.drop n) = Fh.rowRead c ∧ rs.length ≤ n ∧ (n = 0 ∨ lk c ≠ 0) ∧ m = c.length - n,
      ⟨_, 0, c.length, [], [], rfl, hR1.same s01, Kp.same s01, ?_, upd_same, rfl, .nil, Nat.le_refl _, rfl, Nat.zero_le _, .inl rfl, rfl⟩, ?_⟩
    · rw [upd_ne (Ne.symm hSL)]
      exact upd_same
    rintro m σ H' ⟨n, g, rs, xs, rfl, hR', hK', hHL, hHS, hn0, hPr, hg, heq, hlen, hlk, rfl⟩
    obtain ⟨⟨a1, dx1, g1, g2⟩, hp1, _⟩ := id hR'
    refine ⟨_, rfl, rd, dx1, _, rfl, g1, rdF_no _ _ (by decide +kernel) (by decide +kernel), rd, b, f0 + n, rfl, hR', _, rfl, ?_⟩
    by_cases hn : n = c.length
    · rw [decide_eq_true (show f0 + n = b.length by omega)]
      refine iteF ?_
      have eR : Fh.rowRead c = .ok rs.reverse := by
        rw [← heq, List.drop_eq_nil_of_le (by omega), rowFrom_nil]
      refine ⟨_, rfl, _, rfl, _, rfl, fun x dx2 nx nd ne => ⟨x, dx2, _, _, _, rfl, upd_same, fun H6 h6 k6 => ⟨rfl, ?_⟩⟩⟩
      have s6 : Same H' H6 := Same.made nx nd k6
      have sH' : Same H H' := fun c o e => hK' c o (s1 c o e) (hrd1 c o e)
      refine good _ eR (by rw [List.length_reverse]; have := hR'.2.1; omega) H6 x (sH'.trans s6) ⟨?_, dx2, L, S, h6, ⟨fr1 L hL, xs, s6 _ _ hHL, hPr.mono fun y p z => ⟨fr1 y (fresh_new (fresh_new z.1).2).2, s6 _ _ z.2⟩⟩, fr1 S hS1, s6 _ _ hHS, (sH'.trans s6).seq hS, (by omega), ?_⟩
      · exact sH'.free nx
      · rw [rowRead_text eR, hcd, hbd]
        exact pre_drop (List.take_prefix _ _) _
    · rw [decide_eq_false (show ¬ f0 + n = b.length by omega)]
      refine iteT ?_
      have hp1' : n ≤ c.length := by omega
      have hne : c.drop n ≠ [] := fun z => by
        have := congrArg List.length z
        rw [len_drop] at this
        simp at this
        omega
      obtain ⟨g, rfl⟩ : ∃ g', g = g' + 1 := ⟨g - 1, by
        rw [len_drop] at hg
        omega⟩
      rw [rowFrom_step _ _ _ _ hne] at heq
      refine ⟨fun σ' H4 => ∃ (y : Fh.Piece × Nat) (x : Addr), pieceM (c.drop n) = .ok y ∧ σ' = [some (.ref a), some (.int (f0 : Nat)), some (.int (e0 : Nat)), some (.ref rd), some (.ref L), some (.ref S)] ∧ RdAt CR K H4 rd b (f0 + (n + y.2)) ∧ n < n + y.2 ∧ Kp rd H1 H4 ∧ H4 L = some (.lst ((xs ++ [x]).map V.ref)) ∧ lk c ≠ 0 ∧
          H4 S = some (.lst (nvs ((startsOf (y.1 :: rs).reverse).map fun n => f0 + n))) ∧ n + y.2 = (Fh.rowText (y.1 :: rs).reverse).length ∧
          Paired (fun (y : Addr) (p : Fh.Piece) => Fresh (upd (upd H1 L (.lst [])) S (.lst [V.int (f0 : Nat)])) y ∧ H4 y = some (pcT p)) (xs ++ [x]) (y.1 :: rs).reverse, ?_, ?_⟩
      · rintro σ' H4 ⟨y, x, hy, e1, e2, e3, e4, e5, e5a, e5b, e5c, e6⟩
        rw [hy] at heq
        refine ⟨_, ?_, n + y.2, g, y.1 :: rs, xs ++ [x], e1, e2, e4, e5, e5b, e5c, e6, ?_, ?_, ?_, .inr e5a, rfl⟩
        · have := e2.2.1
          omega
        · rw [len_drop] at hg ⊢
          have := e2.2.1
          omega
        · rw [← heq]
          show _ = Fh.rowFrom g (n + y.2) (y.1 :: rs) ((c.drop n).drop y.2)
          rw [drop_more]
        · rw [List.length_cons]
          omega
      · refine ⟨_, rfl, .inl ⟨rfl, _, SqL.of hHL⟩, _, rfl, rd, b, f0 + n, rfl, hR', ?_⟩
        rw [hcn n]
        cases hy : pieceM (c.drop n) with
        | error k =>
          rw [hy] at heq
          have := bad _ heq.symm
          rw [← Nat.add_assoc] at this
          exact this
        | ok y =>
          intro H4 hR4 l4 hK4 x hx hX
          replace hR4 : RdAt CR K H4 rd b (f0 + (n + y.2)) := by rw [← Nat.add_assoc]; exact hR4
          have kf : ∀ c o, Fresh H1 c → H' c = some o → H4 c = some o := fun c o hf e => hR1.fresh hK4 c o hf e
          have hL4 : H4 L = some (.lst (xs.map V.ref)) := kf _ _ hL hHL
          have hS4 : H4 S = some (.lst (nvs ((startsOf rs.reverse).map fun n => f0 + n))) := kf _ _ hS1 hHS
          have hb0 : 0 < b.length := by have := hR4.2.1; omega
          have hxL : x ≠ L := fun z => by
            rw [z] at hx
            rw [show H' L = none from hx] at hHL
            cases hHL
          have hxS : x ≠ S := fun z => by
            rw [z] at hx
            rw [show H' S = none from hx] at hHS
            cases hHS
          have hR5 := hR4.updL (o := .lst ((xs.map V.ref) ++ [V.ref x])) hL4 (bv_refs hb0)
          obtain ⟨⟨a5, dx5, g5, g5b⟩, hp5, _⟩ := id hR5
          have htx : (Fh.rowText (y.1 :: rs).reverse).length = n + y.2 := by
            rw [List.reverse_cons, rowText_app, rowText_one, List.length_append, ← hn0]
            rw [← pieceHere_is] at hy
            obtain ⟨q1, q2, q3⟩ := piece_text hy
            rw [← q3, List.length_take]
            omega
          have hlk0 : lk c ≠ 0 := by
            rcases hlk with rfl | h
            · rw [← pieceHere_is, List.drop_zero] at hy
              exact piece_lk hy
            · exact h
          have hst : nvs ((startsOf rs.reverse).map fun n => f0 + n) ++ [V.int ((f0 + (n + y.2) : Nat) : Int)] = nvs ((startsOf (y.1 :: rs).reverse).map fun n => f0 + n) := by
            rw [List.reverse_cons, startsOf_snoc, ← List.reverse_cons, htx]
            unfold nvs
            rw [List.map_append, List.map_append]
            rfl
          refine ⟨L, _, _, rfl, rfl, hL4, ?_, ?_⟩
          · rw [List.length_map, hPr.length, List.length_reverse]
            have : (262146 : Nat) < sizeLine := by decide
            omega
          have hS5 : (upd H4 L (.lst ((xs.map V.ref) ++ [V.ref x]))) S = some (.lst (nvs ((startsOf rs.reverse).map fun n => f0 + n))) := by
            rw [upd_ne hSL]
            exact hS4
          refine ⟨_, rfl, .inl ⟨rfl, _, SqL.of hS5⟩, _, rfl, rd, CR, dx5, _, _, rfl, g5, T.cl, T.np, rdF_place _ _, S, _, _, rfl, rfl, hS5, ?_, ?_⟩
          · rw [nvs_len, List.length_map, startsOf_len, List.length_reverse]
            have : (262146 : Nat) < sizeLine := by decide
            omega
          refine ⟨y, x, rfl, rfl, ?_, (by omega), fun c o e nn => ?_, ?_, hlk0, ?_, htx.symm, ?_⟩
          · refine hR5.updL hS5 (bv_starts (by rw [List.length_reverse]; omega) fun z => ?_)
            rw [hcd, z, List.drop_zero] at hlk0
            exact hlk0
          · have hcL : c ≠ L := fun z => by
              rw [z, hL] at e
              cases e
            have hcS : c ≠ S := fun z => by
              rw [z, hS1] at e
              cases e
            rw [upd_ne hcS, upd_ne hcL]
            exact hK4 c o (hK' c o e nn) nn
          · rw [upd_ne (Ne.symm hSL), upd_same, List.map_append]
            rfl
          · rw [upd_same, hst]
          · rw [List.reverse_cons]
            refine paired_snoc (hPr.mono fun y r z => ⟨z.1, by
              rw [upd_ne (fresh_new z.1).1, upd_ne (fresh_new (fresh_new z.1).2).1]
              exact kf _ _ (fresh_new (fresh_new z.1).2).2 z.2⟩) ⟨?_, ?_⟩
            · show upd (upd H1 L (.lst [])) S (.lst [V.int (f0 : Nat)]) x = none
              rw [upd_ne hxS, upd_ne hxL]
              exact fresh_of hR' hK' x hx
            · rw [upd_ne hxS, upd_ne hxL]
              exact hX
end
end Sg

/-! SgLn -/
set_option Elab.async false
set_option linter.all false
set_option maxRecDepth 100000
set_option maxHeartbeats 4000000
namespace Sg
open PySem PySem.Spec PyProof.Rows L2
/-! ### where a line ends -/
abbrev ofLine (b : Fh.Bytes) : Fh.Bytes := b.takeWhile fun (y : UInt8) => y != 10
def lineEnd (full : Fh.Bytes) (f : Nat) : Nat := f + (ofLine (full.drop f)).length
theorem ofLine_le (b : Fh.Bytes) : (ofLine b).length ≤ b.length := (List.takeWhile_sublist _).length_le
theorem lineEnd_le (full : Fh.Bytes) (f : Nat) (h : f ≤ full.length) : lineEnd full f ≤ full.length := by
  have := ofLine_le (full.drop f)
  rw [List.length_drop] at this
  unfold lineEnd
  omega
theorem ofLine_at : ∀ (b : Fh.Bytes) (j : Nat), j < b.length → j ≤ (ofLine b).length → (j < (ofLine b).length ↔ lk (b.drop j) ≠ 10)
  | [], j, h, _ => by simp at h
  | c :: r, 0, _, _ => by
    show 0 < ((c :: r).takeWhile fun (y : UInt8) => y != 10).length ↔ c.toNat ≠ 10
    rw [List.takeWhile_cons]
    by_cases q : c = 10
    · subst q
      simp
    · have q2 : c.toNat ≠ 10 := fun z => q (by
        apply UInt8.toNat_inj.mp
        rw [z]
        rfl)
      rw [if_pos (by simpa using q)]
      simp [q2]
  | c :: r, j + 1, h, h2 => by
    have e : ofLine (c :: r) = if (c != 10) = true then c :: ofLine r else [] := List.takeWhile_cons ..
    rw [e] at h2 ⊢
    by_cases q : (c != 10) = true
    · rw [if_pos q] at h2 ⊢
      rw [List.length_cons] at h h2 ⊢
      have := ofLine_at r j (by omega) (by omega)
      rw [List.drop_succ_cons]
      omega
    · rw [if_neg q] at h2
      simp at h2
theorem ofLine_in (full : Fh.Bytes) (f : Nat) : inB full f (lineEnd full f) = ofLine (full.drop f) := by
  have hp : ofLine (full.drop f) <+: full.drop f := List.takeWhile_prefix _
  unfold inB lineEnd
  rw [List.drop_take, Nat.add_sub_cancel_left]
  exact (List.prefix_iff_eq_take.mp hp).symm
section
variable {P : Program} {w : World} {K : PySem.W.Frag} {mg : Str → Option Value} {base : Heap} {CF CR CL : Addr}
/-! ### line_end -/
def spLEnd (K : PySem.W.Frag) : Sp := fun vs H Q _ => ∃ (a : Addr) (full : Fh.Bytes) (f : Nat), vs = [.ref a, .int (f : Nat)] ∧ SqL K H a (bv full) ∧ f ≤ full.length ∧ Q (.int (lineEnd full f : Nat)) H
theorem scLEnd : FnScope ["text", "first", "behind"] ["text", "first"] (defScope sLEnd) := ⟨rfl, rfl, rfl, by decide +kernel, rfl, by decide +kernel, by decide +kernel⟩
theorem ok_lend {f : Addr} {fd : FuncData} (F : Fun K "line_end" "line_end" sLEnd f fd) (TN : TxN mg) : FnOk P w K mg base CX0 2 f fd ["text", "first"] (spLEnd K) := by
  refine F.ok scLEnd (fun vs H Q E h => ?_) (fun cdv A outer s H vs Q E hr h => ?_)
  · obtain ⟨a, full, f, rfl, _⟩ := h
    rfl
  · obtain ⟨a, full, f0, rfl, hS, hf, k⟩ := h
    refine ⟨_, pss_cons (ps_set (i := 2) scLEnd.nd rfl (Or.inl rfl) (pv 1))
      (pss_cons (ps_while PassesOwn.never (PW.pt (pw_and (pt_cmpR op_lt (pv 2) (pe_callB call_len_seq (by rfl) TN.len PySem.boot_len (pa_cons (pv 0) pa_nil)) (nomark _)) (pw_and1 (pt_cmpR op_ne (pe_ix ix_list (pv 0) (pv 2) (fun _ _ => rfl)) (pe_k TN.lf (by rfl)) (nomark _)))))
        (pss_one (ps_aug (i := 2) scLEnd.nd rfl (Or.inl rfl) pe_int ip_add)))
      (pss_one (ps_ret (pv 2)))), ?_⟩
    refine ⟨_, rfl, ?_⟩
    have hle := ofLine_le (full.drop f0)
    rw [List.length_drop] at hle
    refine ⟨fun m σ H' => ∃ j : Nat, σ = [some (.ref a), some (.int (f0 : Nat)), some (.int ((f0 + j : Nat) : Int))] ∧ H' = H ∧ j ≤ (ofLine (full.drop f0)).length ∧ m = (ofLine (full.drop f0)).length - j, ⟨_, 0, rfl, rfl, Nat.zero_le _, rfl⟩, ?_⟩
    rintro m σ H' ⟨j, rfl, rfl, hj, rfl⟩
    have stop : j = (ofLine (full.drop f0)).length → Q (.int ((f0 + j : Nat) : Int)) H' := fun z => by
      unfold lineEnd at k
      rw [← z] at k
      exact k
    refine ⟨_, rfl, _, rfl, a, _, rfl, .inl hS, _, _, rfl, rfl, _, rfl, tst (fun q => ?_) (fun q => ?_)⟩
    · rw [bv_len] at q
      have hjl : f0 + j < full.length := by omega
      have hat := ofLine_at (full.drop f0) j (by rw [List.length_drop]; omega) hj
      rw [List.drop_drop] at hat
      refine ⟨_, rfl, _, rfl, a, _, _, _, rfl, rfl, hS, atI_nat (bv_at hjl), rfl, _, rfl, ?_⟩
      rw [show decide (V.int (lk (full.drop (f0 + j)) : Nat) = V.int 10) = decide (lk (full.drop (f0 + j)) = 10) from decI (b := 10)]
      by_cases z : lk (full.drop (f0 + j)) = 10
      · rw [decide_eq_true z]
        refine iteF ⟨_, rfl, stop ?_⟩
        have : ¬ j < (ofLine (full.drop f0)).length := fun y => hat.mp y z
        omega
      · rw [decide_eq_false z]
        have := hat.mpr z
        refine iteT ⟨_, fun σ' H4 z => z, _, rfl, _, _, rfl, rfl, _, ?_, j + 1, rfl, rfl, by omega, rfl⟩
        omega
    · rw [bv_len] at q
      refine ⟨_, rfl, stop ?_⟩
      omega
/-! ### Line -/
def lnF (a r : V) : List (Str × V) := [("text", a), ("row", r)]
theorem lnF_new (a r : V) : putF "row" r (putF "text" a []) = lnF a r := by
  show putF "row" r [("text", a)] = _
  rw [put_past (by decide +kernel)]
  rfl
theorem lnF_1 (a r : V) : (lnF a r).lookup ("text" : Str) = some a := lk_here
theorem lnF_2 (a r : V) : (lnF a r).lookup ("row" : Str) = some r := (lk_past (by decide +kernel)).trans lk_here
structure TxLn (K : PySem.W.Frag) (CL : Addr) : Prop where
  cl : Cls K CL
  n1 : NoAttr K CL "text"
  n2 : NoAttr K CL "row"
def spLineI (CL : Addr) : Sp := fun vs H Q _ => ∃ (p dx : Addr) (a r : V), vs = [.ref p, a, r] ∧ H p = some (.ins CL dx []) ∧ ∀ H' : Hp, H' p = some (.ins CL dx (lnF a r)) → (∀ b o, H b = some o → b ≠ p → H' b = some o) → Q .non H'
theorem scLineI : FnScope ["self", "text", "row"] ["self", "text", "row"] (defScope sLineI) := ⟨rfl, rfl, rfl, by decide +kernel, rfl, by decide +kernel, by decide +kernel⟩
theorem ok_lineI {f : Addr} {fd : FuncData} (F : Fun K "__init__" "Line.__init__" sLineI f fd) (T : TxLn K CL) : FnOk P w K mg base CX0 2 f fd ["self", "text", "row"] (spLineI CL) := by
  refine F.ok scLineI (fun vs H Q E h => ?_) (fun cdv A outer s H vs Q E hr h => ?_)
  · obtain ⟨p, dx, a, r, rfl, _⟩ := h
    rfl
  · obtain ⟨p, dx, a, r, rfl, hp, q⟩ := h
    refine ⟨_, pss_cons (ps_fld (pv 0) (pv 1) rfl) (pss_one (ps_fld (pv 0) (pv 2) rfl)), ?_⟩
    refine ⟨_, rfl, _, rfl, p, CL, dx, [], rfl, hp, T.cl, T.n1, (by show 0 < 1000; decide), _, rfl, _, rfl, p, CL, dx, _, rfl, upd_same, T.cl, T.n2, (by show 1 < 1000; decide), ?_⟩
    refine q _ (Eq.trans upd_same (congrArg (fun q => some (HO.ins CL dx q)) (lnF_new a r))) fun b o e hb => ?_
    rw [upd_ne hb, upd_ne hb]
    exact e
end
end Sg

/-! SgLn2 -/
set_option Elab.async false
set_option linter.all false
set_option maxRecDepth 100000
set_option maxHeartbeats 4000000
namespace Sg
open PySem PySem.Spec PyProof.Rows L2
/-! ### characters alone -/
theorem charsFrom_nil (g n : Nat) (l : List Nat) : Fh.charsFrom g n l [] = .ok l.reverse := by
  cases g <;> rfl
theorem charsFrom_step (f p : Nat) (l : List Nat) (b : Fh.Bytes) (hb : b ≠ []) : Fh.charsFrom (f + 1) p l b = match Fh.charHere b with
    | .ok x => Fh.charsFrom f (p + x.2) (x.1 :: l) (b.drop x.2)
    | .error k => .error (p + k) := by
  cases b with
  | nil => exact absurd rfl hb
  | cons c r => rfl
structure TxDc (mg : Str → Option Value) : Prop where
  mostC : ∃ t, mg "MOST_CHARACTERS_documenttext" = some (.int 4096 t)
  mostL : ∃ t, mg "MOST_LINES" = some (.int 16384 t)
  raw : ∃ t, mg "RAW_SIGN" = some (.int 124 t)
  para : ∃ t, mg "PARAGRAPH_SIGN" = some (.int 62 t)
/-- E(n), the number in hand -/
theorem raise_n {K : PySem.W.Frag} {CF : Addr} {ta : TA} {σ : L2.St} {H : Hp} {E : XK} {n : Nat} (q : Bad CF E n) (h : ∀ k : List V → Hp → Prop, k [V.int (n : Nat)] H → ta σ H k) : tMkO CF (spFault CF) [] ta σ H (fun cls d H' => E cls d H') := by
  refine h _ ⟨(by show 1 ≤ 1000; decide), fun e he => ⟨e, n, rfl, upd_same, fun H' d hd h1 h2 => ⟨rfl, d, ftF n, h1, h2, ?_, q d _ upd_same⟩⟩⟩
  by_cases z : d = e
  · rw [z, upd_same] at hd
    cases hd
  · rw [upd_ne z] at hd
    exact hd
section
variable {P : Program} {w : World} {K : PySem.W.Frag} {mg : Str → Option Value} {base : Heap} {CF CR CL : Addr}
/-! ### check_raw -/
def spRaw (CF : Addr) (K : PySem.W.Frag) : Sp := fun vs H Q E => ∃ (a : Addr) (full : Fh.Bytes) (f e : Nat), vs = [.ref a, .int (f : Nat), .int (e : Nat)] ∧ SqL K H a (bv full) ∧ f + 1 ≤ e ∧ e ≤ full.length ∧ full.length ≤ 262144 ∧
  (∀ k, Fh.charsRead (inB full (f + 1) e) = .error k → Bad CF E (f + 1 + k)) ∧ ∀ t, Fh.charsRead (inB full (f + 1) e) = .ok t → (4096 < t.length → Bad CF E f) ∧ (¬ 4096 < t.length → ∀ H' : Hp, Same H H' → Q .non H')
theorem scRaw : FnScope ["text", "first", "behind", "reader", "characters"] ["text", "first", "behind"] (defScope sRaw) := ⟨rfl, rfl, rfl, by decide +kernel, rfl, by decide +kernel, by decide +kernel⟩
theorem ok_raw {f fI : Addr} {fd fdI : FuncData} (F : Fun K "check_raw" "check_raw" sRaw f fd) (T : TxR K mg CR) (TD : TxDc mg) (TF : TxF K mg CF) (GE : MethOk P w K mg base CX0 2 CR "ended" ["self"] (spEnded CR K)) (GR : NewOk P w K mg base 2 "Reader" CR ["self", "text", "first", "behind"] (spRdI CR))
    (GC : MethOk P w K mg base (L2N.CX P w) 4 CR "take_character" ["self"] (spChar CF CR K))
    (iF : PySem.W.findIn K (.ref CF) "__init__" = some (some (.ref fI))) (tF : PySem.W.typeIn K (.ref fI) = some (.type "function")) (FI : FnOk P w K mg base CX0 2 fI fdI ["self", "place"] (spFault CF)) (bI : Binds K fdI ["self", "place"] []) :
    FnOk P w K mg base (L2N.CX P w) 5 f fd ["text", "first", "behind"] (spRaw CF K) := by
  refine okN F scRaw (fun vs H Q E h => ?_) (fun cdv A outer s H vs Q E hr h => ?_)
  · obtain ⟨a, full, f, e, rfl, _⟩ := h
    rfl
  · obtain ⟨a, full, f0, e0, rfl, hS, hfe, hel, hfl, bad, good⟩ := h
    obtain ⟨b, hbd⟩ : ∃ b : Fh.Bytes, b = full.take e0 := ⟨_, rfl⟩
    have hbl : b.length = e0 := by rw [hbd, List.length_take]; omega
    have hb : b.length ≤ 262144 := by omega
    have hpre : b <+: full := by rw [hbd]; exact List.take_prefix ..
    obtain ⟨c, hcd⟩ : ∃ c : Fh.Bytes, c = b.drop (f0 + 1) := ⟨_, rfl⟩
    have hcl : c.length = e0 - (f0 + 1) := by rw [hcd, List.length_drop]; omega
    have hin : inB full (f0 + 1) e0 = c := by rw [hcd, hbd]
    rw [hin] at bad good
    have hcn : ∀ n, b.drop (f0 + 1 + n) = c.drop n := fun n => by rw [hcd, List.drop_drop]
    have hr1 : Room 2 (A.deeper (envOfC (Str.ofString "check_raw") (defScope sRaw) s.heap.objs.size f cdv)) := hr.mono (by decide)
    have hr2 : Room 3 (A.deeper (envOfC (Str.ofString "check_raw") (defScope sRaw) s.heap.objs.size f cdv)) := hr.mono (by decide)
    refine ⟨_, pss_cons (ps_set (i := 3) scRaw.nd rfl (Or.inl rfl) (pe_mk GR hr2 (by rfl) (by exact (pa_cons (pv 0) (pa_cons (pe_op op_add (pv 1) pe_int) (pa_cons (pv 2) pa_nil))))))
      (pss_cons (ps_set (i := 4) scRaw.nd rfl (Or.inl rfl) pe_int)
      (pss_cons (ps_while (passes_of rfl) (pt_not (pt_val (pe_m0 GE T.cl hr1 pass0 (pv 3))))
        (pss_cons (ps_expr (pe_m0 GC T.cl hr (passN rfl rfl rfl rfl) (pv 3)))
          (pss_one (ps_aug (i := 4) scRaw.nd rfl (Or.inl rfl) pe_int ip_add))))
      (pss_one (ps_if (pt_cmpR op_gt (pv 4) (pe_k TD.mostC (by rfl)) (nomark _)) (pss_one (L2N.ps_raise rfl (L2N.takes_of rfl rfl rfl rfl) (pmk_oexN TF.ox iF tF FI hr2 bI .nil pass0 (by rfl) TF.g (pa_cons (pv 1) pa_nil)))) pss_nil)))), ?_⟩
    refine ⟨_, rfl, _, rfl, _, _, rfl, rfl, _, rfl, fun rd dx nrd ndx nne => ⟨rd, dx, a, f0 + 1, e0, rfl, upd_same, fun H1 h1 k1 => ⟨rfl, ?_⟩⟩⟩
    have s1 : Same H H1 := Same.made nrd ndx k1
    have hR1 : RdAt CR K H1 rd b (f0 + 1 + 0) := ⟨⟨a, dx, by rw [hbl]; exact h1, full, s1.seq hS, hpre⟩, by omega, hb⟩
    have hrd1 : ∀ c o, H c = some o → c ≠ rd := fun c o e z => by
      rw [z, nrd] at e
      cases e
    refine ⟨fun m σ H' => ∃ (n g : Nat) (cs : List Nat), σ = [some (.ref a), some (.int (f0 : Nat)), some (.int (e0 : Nat)), some (.ref rd), some (.int (cs.length : Nat))] ∧ RdAt CR K H' rd b (f0 + 1 + n) ∧ Kp rd H1 H' ∧ (c.drop n).length ≤ g ∧ Fh.charsFrom g n cs (c.drop n) = Fh.charsRead c ∧ m = c.length - n,
      ⟨_, 0, c.length, [], rfl, hR1, Kp.refl _ _, Nat.le_refl _, rfl, rfl⟩, ?_⟩
    rintro m σ H' ⟨n, g, cs, rfl, hR', hK', hg, heq, rfl⟩
    obtain ⟨⟨a1, dx1, g1, g2⟩, hp1, _⟩ := id hR'
    refine ⟨_, rfl, rd, dx1, _, rfl, g1, rdF_no _ _ (by decide +kernel) (by decide +kernel), rd, b, f0 + 1 + n, rfl, hR', _, rfl, ?_⟩
    by_cases hn : n = c.length
    · rw [decide_eq_true (show f0 + 1 + n = b.length by omega)]
      refine iteF ?_
      have eR : Fh.charsRead c = .ok cs.reverse := by
        rw [← heq, List.drop_eq_nil_of_le (by omega), charsFrom_nil]
      obtain ⟨q1, q2⟩ := good _ eR
      rw [List.length_reverse] at q1 q2
      refine ⟨_, rfl, _, _, rfl, rfl, _, rfl, tst (fun q => ?_) (fun q => ?_)⟩
      · exact raise_n (K := K) (q1 (by omega)) fun k z => ⟨_, rfl, z⟩
      · exact q2 (by omega) H' fun c o e => hK' c o (s1 c o e) (hrd1 c o e)
    · rw [decide_eq_false (show ¬ f0 + 1 + n = b.length by omega)]
      refine iteT ?_
      have hne : c.drop n ≠ [] := fun z => by
        have := congrArg List.length z
        rw [len_drop] at this
        simp at this
        omega
      obtain ⟨g, rfl⟩ : ∃ g', g = g' + 1 := ⟨g - 1, by
        rw [len_drop] at hg
        omega⟩
      rw [charsFrom_step _ _ _ _ hne] at heq
      refine ⟨_, fun σ' H4 z => z, ?_⟩
      refine m_char (E := E) rfl hR' ?_
      rw [hcn n]
      cases hy : Fh.charHere (c.drop n) with
      | error k =>
        rw [hy] at heq
        have := bad _ heq.symm
        rw [← Nat.add_assoc] at this
        exact this
      | ok y =>
        rw [hy] at heq
        intro H4 hR4 l4 hK4
        replace hR4 : RdAt CR K H4 rd b (f0 + 1 + n + y.2) := hR4
        have hp4 := hR4.2.1
        refine ⟨_, rfl, _, _, rfl, rfl, _, ?_, n + y.2, g, y.1 :: cs, rfl, by rw [← Nat.add_assoc]; exact hR4, hK'.trans hK4, ?_, ?_, rfl⟩
        · omega
        · rw [len_drop] at hg ⊢
          omega
        · rw [← heq]
          show _ = Fh.charsFrom g (n + y.2) (y.1 :: cs) ((c.drop n).drop y.2)
          rw [drop_more]
end
end Sg

/-! SgLnM -/
set_option Elab.async false
set_option linter.all false
set_option maxRecDepth 100000
set_option maxHeartbeats 4000000
namespace Sg
open Fh
/-! ### what is read of a line is its text -/
theorem charsFrom_text : ∀ (f p : Nat) (l : List Nat) (b : Bytes) (r : List Nat), charsFrom f p l b = .ok r → r.flatMap utf8 = l.reverse.flatMap utf8 ++ b
  | f, p, l, [], r, h => by
    have : charsFrom f p l [] = .ok l.reverse := by cases f <;> rfl
    rw [this] at h
    cases h
    simp
  | 0, p, l, c :: b, r, h => by
    cases h
  | f + 1, p, l, c :: b, r, h => by
    unfold charsFrom at h
    cases hq : charHere (c :: b) with
    | error k => rw [hq] at h; cases h
    | ok x =>
      rw [hq] at h
      obtain ⟨h1, h2, h3, _⟩ := char_text hq
      have ih := charsFrom_text f (p + x.2) (x.1 :: l) ((c :: b).drop x.2) r h
      rw [ih, List.reverse_cons, List.flatMap_append, List.append_assoc]
      congr 1
      simp only [List.flatMap_cons, List.flatMap_nil, List.append_nil]
      rw [← h3, List.take_append_drop]
theorem charsRead_text {b : Bytes} {t : List Nat} (h : charsRead b = .ok t) : t.flatMap utf8 = b := by
  have := charsFrom_text _ _ _ _ _ h
  simpa using this
theorem digits_six : ∀ (d : Bytes) (n v x m : Nat), n ≤ 3 → digitsHere n v d = .ok (x, m) → m ≤ 3
  | [], n, v, x, m, hn, h => by
    unfold digitsHere at h
    cases h
  | c :: r, n, v, x, m, hn, h => by
    unfold digitsHere at h
    by_cases h0 : n = 0
    · rw [if_pos h0] at h
      by_cases hc : 49 ≤ c.toNat ∧ c.toNat ≤ 57
      · rw [if_pos hc] at h
        cases hq : digitsHere 1 (c.toNat - 48) r with
        | error k => rw [hq] at h; cases h
        | ok y =>
          rw [hq] at h
          cases h
          exact digits_six r 1 _ _ _ (by omega) hq
      · rw [if_neg hc] at h
        cases h
    · rw [if_neg h0] at h
      by_cases hc : c = 125
      · rw [if_pos hc] at h
        cases h
        exact hn
      · rw [if_neg hc] at h
        by_cases hd : n < 3 ∧ isDigit c = true
        · rw [if_pos hd] at h
          cases hq : digitsHere (n + 1) (10 * v + (c.toNat - 48)) r with
          | error k => rw [hq] at h; cases h
          | ok y =>
            rw [hq] at h
            cases h
            exact digits_six r (n + 1) _ _ _ (by omega) hq
        · rw [if_neg hd] at h
          cases h
theorem char_four {b : Bytes} {x : Nat × Nat} (h : charHere b = .ok x) : x.2 ≤ 4 := by
  cases b with
  | nil => cases h
  | cons c r =>
    rw [charHere_cons] at h
    split at h
    · cases h
    · split at h
      · cases h
        show lengthBy c.toNat ≤ 4
        unfold lengthBy
        repeat' split
        all_goals omega
      · cases h
theorem piece_six {b : Bytes} {x : Piece × Nat} (h : pieceHere b = .ok x) : x.2 ≤ 6 := by
  cases b with
  | nil => cases h
  | cons c r =>
    unfold pieceHere at h
    dsimp only at h
    by_cases hc : c = 123
    · rw [if_pos hc] at h
      cases r with
      | nil => cases h
      | cons s d =>
        dsimp only at h
        by_cases h1 : s = 123
        · rw [if_pos h1] at h
          cases h
          show 2 ≤ 6
          omega
        · rw [if_neg h1] at h
          by_cases h2 : s = 43 ∨ s = 45 ∨ s = 46
          · rw [if_pos h2] at h
            cases hq : digitsHere 0 0 d with
            | error k => rw [hq] at h; cases h
            | ok y =>
              rw [hq] at h
              cases h
              have := digits_six d 0 0 y.1 y.2 (by omega) hq
              show y.2 + 3 ≤ 6
              omega
          · rw [if_neg h2] at h
            cases h
    · rw [if_neg hc] at h
      cases hq : charHere (c :: r) with
      | error k => rw [hq] at h; cases h
      | ok y =>
        rw [hq] at h
        cases h
        have := char_four hq
        show y.2 ≤ 6
        omega
theorem rowFrom_six : ∀ (f p : Nat) (l : Row) (b : Bytes) (r : Row), rowFrom f p l b = .ok r → b.length + 6 * l.length ≤ 6 * r.length
  | f, p, l, [], r, h => by
    have : rowFrom f p l [] = .ok l.reverse := by cases f <;> rfl
    rw [this] at h
    cases h
    simp
  | 0, p, l, c :: b, r, h => by
    cases h
  | f + 1, p, l, c :: b, r, h => by
    unfold rowFrom at h
    cases hq : pieceHere (c :: b) with
    | error k => rw [hq] at h; cases h
    | ok x =>
      rw [hq] at h
      have h6 := piece_six hq
      have ih := rowFrom_six f (p + x.2) (x.1 :: l) ((c :: b).drop x.2) r h
      rw [List.length_drop] at ih
      simp only [List.length_cons] at ih ⊢
      omega
theorem rowRead_six {b : Bytes} {r : Row} (h : rowRead b = .ok r) : b.length ≤ 6 * r.length := by
  have := rowFrom_six _ _ _ _ _ h
  simpa using this
/-! ### a line, its end not with it -/
def lnTxt : Line → Bytes
  | .raw t => 124 :: t.flatMap utf8
  | .para r => 62 :: rowText r
theorem lnTxt_is (l : Line) : l.text = lnTxt l ++ [10] := by
  cases l <;> rfl
def lineM (f : Nat) (b : Bytes) : Except Nat Line :=
  if (b.takeWhile fun (y : UInt8) => y != 10).length = b.length then (if lk b = 124 ∨ lk b = 62 then .error (f + b.length) else .error f)
  else match lineRead f (b.takeWhile fun (y : UInt8) => y != 10) with
    | .error e => .error e.2
    | .ok l => .ok l
theorem u8_iff (c : UInt8) (n : Nat) (h : n < 256) : c = UInt8.ofNat n ↔ c.toNat = n := by
  constructor
  · rintro rfl
    rw [UInt8.toNat_ofNat']
    omega
  · intro e
    exact (u8_of n c e.symm).symm
theorem docFrom_step (f p n : Nat) (d : Document) (b : Bytes) (hb : b ≠ []) : docFrom (f + 1) p n d b = if 16384 ≤ n then .error (6, p) else match lineM p b with
    | .error q => (match docFrom (f + 1) p n d b with
      | .error e => .error (e.1, q)
      | .ok y => .ok y)
    | .ok l => docFrom f (p + (b.takeWhile fun (y : UInt8) => y != 10).length + 1) (n + 1) (l :: d) (b.drop ((b.takeWhile fun (y : UInt8) => y != 10).length + 1)) := by
  cases b with
  | nil => exact absurd rfl hb
  | cons c r =>
    have e : docFrom (f + 1) p n d (c :: r) = if LINES ≤ n then .error (6, p) else
        if ((c :: r).takeWhile fun (y : UInt8) => y != 10).length = (c :: r).length then (if c = 124 ∨ c = 62 then .error (5, p + ((c :: r).takeWhile fun (y : UInt8) => y != 10).length) else .error (1, p))
        else match lineRead p ((c :: r).takeWhile fun (y : UInt8) => y != 10) with
          | .error e => .error e
          | .ok l => docFrom f (p + ((c :: r).takeWhile fun (y : UInt8) => y != 10).length + 1) (n + 1) (l :: d) ((c :: r).drop (((c :: r).takeWhile fun (y : UInt8) => y != 10).length + 1)) := rfl
    rw [e]
    by_cases h : 16384 ≤ n
    · rw [if_pos h, if_pos (show LINES ≤ n from h)]
    · rw [if_neg h, if_neg (show ¬ LINES ≤ n from h)]
      unfold lineM
      have ec : (c = 124 ∨ c = 62) ↔ (lk (c :: r) = 124 ∨ lk (c :: r) = 62) := by
        have e1 := u8_iff c 124 (by omega)
        have e2 := u8_iff c 62 (by omega)
        exact or_congr e1 e2
      by_cases h2 : ((c :: r).takeWhile fun (y : UInt8) => y != 10).length = (c :: r).length
      · rw [if_pos h2, if_pos h2]
        by_cases h3 : c = 124 ∨ c = 62
        · rw [if_pos h3, if_pos (ec.mp h3), h2]
        · rw [if_neg h3, if_neg fun z => h3 (ec.mpr z)]
      · rw [if_neg h2, if_neg h2]
        cases lineRead p ((c :: r).takeWhile fun (y : UInt8) => y != 10) <;> rfl
theorem tw_cons {c : UInt8} {r : Bytes} (h : c.toNat ≠ 10) : ((c :: r).takeWhile fun (y : UInt8) => y != 10) = c :: r.takeWhile fun (y : UInt8) => y != 10 := by
  rw [List.takeWhile_cons, if_pos]
  have : c ≠ 10 := fun z => h (by rw [z]; rfl)
  simpa using this
theorem lineM_end {f : Nat} {b : Bytes} (h : lk b = 124 ∨ lk b = 62) (h2 : (b.takeWhile fun (y : UInt8) => y != 10).length = b.length) : lineM f b = .error (f + b.length) := by
  unfold lineM
  rw [if_pos h2, if_pos h]
theorem lineM_no {f : Nat} {b : Bytes} (h1 : lk b ≠ 124) (h2 : lk b ≠ 62) : lineM f b = .error f := by
  unfold lineM
  by_cases h : (b.takeWhile fun (y : UInt8) => y != 10).length = b.length
  · rw [if_pos h, if_neg (by rintro (z | z); exact h1 z; exact h2 z)]
  · rw [if_neg h]
    cases b with
    | nil => exact absurd rfl h
    | cons c r =>
      by_cases hc : c.toNat = 10
      · have e : ((c :: r).takeWhile fun (y : UInt8) => y != 10) = [] := by
          have : c = 10 := (u8_iff c 10 (by omega)).mpr hc
          rw [List.takeWhile_cons, if_neg (by rw [this]; simp)]
        rw [e]
        rfl
      · rw [tw_cons hc]
        unfold lineRead
        dsimp only
        rw [if_neg (show ¬ c = 124 from fun z => h1 ((u8_iff c 124 (by omega)).mp z)), if_neg (show ¬ c = 62 from fun z => h2 ((u8_iff c 62 (by omega)).mp z))]
theorem lineM_raw {f : Nat} {b : Bytes} (h : lk b = 124) (h2 : (b.takeWhile fun (y : UInt8) => y != 10).length ≠ b.length) : lineM f b = match charsRead ((b.takeWhile fun (y : UInt8) => y != 10).drop 1) with
    | .ok t => if 4096 < t.length then .error f else .ok (.raw t)
    | .error k => .error (f + 1 + k) := by
  unfold lineM
  rw [if_neg h2]
  cases b with
  | nil => exact absurd rfl h2
  | cons c r =>
    have hc : c.toNat = 124 := h
    have e : c = 124 := (u8_iff c 124 (by omega)).mpr hc
    rw [tw_cons (by omega)]
    unfold lineRead
    dsimp only
    rw [if_pos e, List.drop_succ_cons, List.drop_zero]
    cases charsRead (r.takeWhile fun (y : UInt8) => y != 10) with
    | error k => rfl
    | ok t =>
      dsimp only
      by_cases q : 4096 < t.length
      · rw [if_pos q, if_pos (show PIECES < t.length from q)]
      · rw [if_neg q, if_neg (show ¬ PIECES < t.length from q)]
theorem lineM_para {f : Nat} {b : Bytes} (h : lk b = 62) (h2 : (b.takeWhile fun (y : UInt8) => y != 10).length ≠ b.length) : lineM f b = match rowRead ((b.takeWhile fun (y : UInt8) => y != 10).drop 1) with
    | .ok r => if 4096 < r.length ∨ paired r = false then .error f else .ok (.para r)
    | .error k => .error (f + 1 + k) := by
  unfold lineM
  rw [if_neg h2]
  cases b with
  | nil => exact absurd rfl h2
  | cons c r =>
    have hc : c.toNat = 62 := h
    have e : c = 62 := (u8_iff c 62 (by omega)).mpr hc
    rw [tw_cons (by omega)]
    unfold lineRead
    dsimp only
    rw [if_neg (by rw [e]; decide), if_pos e, List.drop_succ_cons, List.drop_zero]
    cases hq : rowRead (r.takeWhile fun (y : UInt8) => y != 10) with
    | error k => rfl
    | ok y =>
      dsimp only
      have h6 := rowRead_six hq
      by_cases q : 4096 < y.length
      · rw [if_pos (Or.inl q), if_pos (Or.inl (show PIECES < y.length from q))]
      · rw [if_neg (show ¬ (PIECES < y.length ∨ ROWTEXT < (r.takeWhile fun (y : UInt8) => y != 10).length) by
          rintro (z | z)
          · exact q z
          · have : 65536 < (r.takeWhile fun (y : UInt8) => y != 10).length := z
            omega)]
        by_cases q2 : paired y = false
        · rw [if_pos q2, if_pos (Or.inr q2)]
        · rw [if_neg q2, if_neg (by rintro (z | z); exact q z; exact q2 z)]
theorem docFrom_bad {f p n : Nat} {d : Document} {b : Bytes} {q : Nat} (hb : b ≠ []) (hn : ¬ 16384 ≤ n) (h : lineM p b = .error q) : ∃ k, docFrom (f + 1) p n d b = .error (k, q) := by
  have e := docFrom_step f p n d b hb
  rw [if_neg hn, h] at e
  cases hd : docFrom (f + 1) p n d b with
  | error y =>
    rw [hd] at e
    dsimp only at e
    exact ⟨y.1, e⟩
  | ok y =>
    exfalso
    cases b with
    | nil => exact hb rfl
    | cons c r =>
      have e2 : docFrom (f + 1) p n d (c :: r) = if LINES ≤ n then .error (6, p) else
        if ((c :: r).takeWhile fun (y : UInt8) => y != 10).length = (c :: r).length then (if c = 124 ∨ c = 62 then .error (5, p + ((c :: r).takeWhile fun (y : UInt8) => y != 10).length) else .error (1, p))
        else match lineRead p ((c :: r).takeWhile fun (y : UInt8) => y != 10) with
          | .error e => .error e
          | .ok l => docFrom f (p + ((c :: r).takeWhile fun (y : UInt8) => y != 10).length + 1) (n + 1) (l :: d) ((c :: r).drop (((c :: r).takeWhile fun (y : UInt8) => y != 10).length + 1)) := rfl
      rw [e2, if_neg (show ¬ LINES ≤ n from hn)] at hd
      unfold lineM at h
      by_cases h2 : ((c :: r).takeWhile fun (y : UInt8) => y != 10).length = (c :: r).length
      · rw [if_pos h2] at hd
        split at hd <;> cases hd
      · rw [if_neg h2] at hd h
        cases hl : lineRead p ((c :: r).takeWhile fun (y : UInt8) => y != 10) with
        | error y => rw [hl] at hd; cases hd
        | ok l => rw [hl] at h; cases h
theorem docFrom_good {f p n : Nat} {d : Document} {b : Bytes} {l : Line} (hb : b ≠ []) (hn : ¬ 16384 ≤ n) (h : lineM p b = .ok l) :
    docFrom (f + 1) p n d b = docFrom f (p + (b.takeWhile fun (y : UInt8) => y != 10).length + 1) (n + 1) (l :: d) (b.drop ((b.takeWhile fun (y : UInt8) => y != 10).length + 1)) := by
  rw [docFrom_step f p n d b hb, if_neg hn, h]
theorem docFrom_full {f p n : Nat} {d : Document} {b : Bytes} (hb : b ≠ []) (hn : 16384 ≤ n) : docFrom (f + 1) p n d b = .error (6, p) := by
  rw [docFrom_step f p n d b hb, if_pos hn]
theorem lineM_text {p : Nat} {b : Bytes} {l : Line} (h : lineM p b = .ok l) : lnTxt l = (b.takeWhile fun (y : UInt8) => y != 10) := by
  by_cases h2 : (b.takeWhile fun (y : UInt8) => y != 10).length = b.length
  · unfold lineM at h
    rw [if_pos h2] at h
    split at h <;> cases h
  · by_cases h1 : lk b = 124
    · rw [lineM_raw h1 h2] at h
      cases b with
      | nil => exact absurd rfl h2
      | cons c r =>
        have hc : c.toNat = 124 := h1
        rw [tw_cons (by omega)] at h ⊢
        rw [List.drop_succ_cons, List.drop_zero] at h
        cases hq : charsRead (r.takeWhile fun (y : UInt8) => y != 10) with
        | error k => rw [hq] at h; cases h
        | ok t =>
          rw [hq] at h
          dsimp only at h
          split at h
          · cases h
          · cases h
            show 124 :: t.flatMap utf8 = _
            rw [charsRead_text hq, (u8_iff c 124 (by omega)).mpr hc]
            rfl
    · by_cases h3 : lk b = 62
      · rw [lineM_para h3 h2] at h
        cases b with
        | nil => exact absurd rfl h2
        | cons c r =>
          have hc : c.toNat = 62 := h3
          rw [tw_cons (by omega)] at h ⊢
          rw [List.drop_succ_cons, List.drop_zero] at h
          cases hq : rowRead (r.takeWhile fun (y : UInt8) => y != 10) with
          | error k => rw [hq] at h; cases h
          | ok t =>
            rw [hq] at h
            dsimp only at h
            split at h
            · cases h
            · cases h
              show 62 :: rowText t = _
              rw [rowRead_text hq, (u8_iff c 62 (by omega)).mpr hc]
              rfl
      · rw [lineM_no h1 h3] at h
        cases h
theorem lineM_lf {p : Nat} {b : Bytes} {l : Line} (h : lineM p b = .ok l) : b = lnTxt l ++ 10 :: b.drop ((b.takeWhile fun (y : UInt8) => y != 10).length + 1) := by
  rw [lineM_text h]
  have hne : (b.takeWhile fun (y : UInt8) => y != 10).length ≠ b.length := fun z => by
    unfold lineM at h
    rw [if_pos z] at h
    split at h <;> cases h
  clear h
  induction b with
  | nil => exact absurd rfl hne
  | cons c r ih =>
    by_cases hc : c.toNat = 10
    · have e10 : c = 10 := (u8_iff c 10 (by omega)).mpr hc
      have e : ((c :: r).takeWhile fun (y : UInt8) => y != 10) = [] := by rw [List.takeWhile_cons, if_neg (by rw [e10]; simp)]
      rw [e, e10]
      rfl
    · rw [tw_cons hc] at hne ⊢
      simp only [List.length_cons] at hne ⊢
      rw [List.drop_succ_cons, List.cons_append]
      exact congrArg _ (ih (by omega))
theorem docFrom_text : ∀ (f p n : Nat) (d : Document) (b : Bytes) (r : Document), docFrom f p n d b = .ok r → docText r = docText d.reverse ++ b
  | f, p, n, d, [], r, h => by
    have : docFrom f p n d [] = .ok d.reverse := by cases f <;> rfl
    rw [this] at h
    cases h
    simp
  | 0, p, n, d, c :: b, r, h => by cases h
  | f + 1, p, n, d, c :: b, r, h => by
    by_cases hn : 16384 ≤ n
    · rw [docFrom_full (by simp) hn] at h
      cases h
    · cases hl : lineM p (c :: b) with
      | error q =>
        obtain ⟨k, e⟩ := docFrom_bad (f := f) (d := d) (by simp) hn hl
        rw [e] at h
        cases h
      | ok l =>
        rw [docFrom_good (by simp) hn hl] at h
        have ih := docFrom_text f _ _ _ _ r h
        rw [ih, List.reverse_cons]
        unfold docText
        rw [List.flatMap_append, List.append_assoc]
        congr 1
        simp only [List.flatMap_cons, List.flatMap_nil, List.append_nil]
        rw [lnTxt_is, List.append_assoc]
        exact (lineM_lf hl).symm
theorem docRead_text {b : Bytes} {d : Document} (h : docRead b = .ok d) : docText d = b := by
  have := docFrom_text _ _ _ _ _ _ h
  simpa [docText] using this
theorem docFrom_nil (f p n : Nat) (d : Document) : docFrom f p n d [] = .ok d.reverse := by cases f <;> rfl
end Sg

/-! SgHalf -/
set_option Elab.async false
set_option linter.all false
namespace Sg
open Fh
/-! ### halves, as the program goes through a row: left halves, the pile (its top first), the numbers seen -/
def hvM : List Nat → List Nat → List Nat → Row → Option (List Nat × List Nat)
  | l, s, _, [] => some (l, s.reverse)
  | l, s, u, .char _ :: r => hvM l s u r
  | l, s, u, .open_ n :: r => if u.contains n = true then none else hvM l (n :: s) (n :: u) r
  | l, s, u, .alone n :: r => if u.contains n = true then none else hvM l s (n :: u) r
  | l, [], u, .close n :: r => if u.contains n = true then none else hvM (l ++ [n]) [] (n :: u) r
  | l, m :: t, u, .close n :: r => if m = n then hvM l t u r else none
/-- the numbers that come new -/
def mkS : List Nat → Row → List Nat
  | _, [] => []
  | s, .char _ :: r => mkS s r
  | s, .open_ n :: r => n :: mkS (n :: s) r
  | s, .alone n :: r => n :: mkS s r
  | [], .close n :: r => n :: mkS [] r
  | _ :: t, .close _ :: r => mkS t r
theorem new_step {n : Nat} {u m : List Nat} {A : Prop} : (¬ u.contains n = true ∧ A ∧ m.Nodup ∧ ∀ k ∈ m, k ∉ n :: u) ↔ A ∧ (n :: m).Nodup ∧ ∀ k ∈ n :: m, k ∉ u := by
  rw [List.nodup_cons]
  simp only [List.contains_eq_mem, decide_eq_true_eq, List.mem_cons, not_or, forall_eq_or_imp]
  constructor
  · rintro ⟨h1, h2, h3, h4⟩
    exact ⟨h2, ⟨fun z => (h4 n z).1 rfl, h3⟩, h1, fun m hm => (h4 m hm).2⟩
  · rintro ⟨h2, ⟨h5, h3⟩, h1, h4⟩
    exact ⟨h1, h2, h3, fun m hm => ⟨fun z => h5 (z ▸ hm), h4 m hm⟩⟩
theorem some_if {α : Type} {c : Prop} [Decidable c] {a : Option α} {x : α} : (if c then none else a) = some x ↔ ¬ c ∧ a = some x := by
  by_cases h : c
  · rw [if_pos h]
    exact ⟨fun z => (by cases z), fun z => absurd h z.1⟩
  · rw [if_neg h]
    exact ⟨fun z => ⟨h, z⟩, fun z => z.2⟩
theorem hvM_iff : ∀ (r : Row) (l s u : List Nat) (x : List Nat × List Nat), hvM l s u r = some x ↔ halvesFrom s l r = some x ∧ (mkS s r).Nodup ∧ ∀ m ∈ mkS s r, m ∉ u
  | [], l, s, u, x => ⟨fun h => ⟨h, List.nodup_nil, fun m hm => absurd hm (by simp [mkS])⟩, fun h => h.1⟩
  | .char _ :: r, l, s, u, x => by
    show hvM l s u r = some x ↔ _
    rw [hvM_iff r l s u x]
    exact Iff.rfl
  | .open_ n :: r, l, s, u, x => by
    show (if u.contains n = true then none else hvM l (n :: s) (n :: u) r) = some x ↔ halvesFrom (n :: s) l r = some x ∧ (n :: mkS (n :: s) r).Nodup ∧ ∀ m ∈ n :: mkS (n :: s) r, m ∉ u
    rw [some_if, hvM_iff r l (n :: s) (n :: u) x, new_step]
  | .alone n :: r, l, s, u, x => by
    show (if u.contains n = true then none else hvM l s (n :: u) r) = some x ↔ halvesFrom s l r = some x ∧ (n :: mkS s r).Nodup ∧ ∀ m ∈ n :: mkS s r, m ∉ u
    rw [some_if, hvM_iff r l s (n :: u) x, new_step]
  | .close n :: r, l, [], u, x => by
    show (if u.contains n = true then none else hvM (l ++ [n]) [] (n :: u) r) = some x ↔ halvesFrom [] (l ++ [n]) r = some x ∧ (n :: mkS [] r).Nodup ∧ ∀ m ∈ n :: mkS [] r, m ∉ u
    rw [some_if, hvM_iff r (l ++ [n]) [] (n :: u) x, new_step]
  | .close n :: r, l, m :: t, u, x => by
    show (if m = n then hvM l t u r else none) = some x ↔ (if m = n then halvesFrom t l r else none) = some x ∧ (mkS t r).Nodup ∧ ∀ k ∈ mkS t r, k ∉ u
    by_cases q : m = n
    · rw [if_pos q, if_pos q]
      exact hvM_iff r l t u x
    · rw [if_neg q, if_neg q]
      exact ⟨fun z => (by cases z), fun z => by cases z.1⟩
theorem mkS_count : ∀ (r : Row) (s l : List Nat) (x : List Nat × List Nat) (a : Nat), halvesFrom s l r = some x → (mkS s r).count a + l.count a = (opens r).count a + (alones r).count a + x.1.count a
  | [], s, l, x, a, h => by
    have : x = (l, s.reverse) := (Option.some.inj h).symm
    rw [this]
    show 0 + l.count a = 0 + 0 + l.count a
    omega
  | .char _ :: r, s, l, x, a, h => mkS_count r s l x a h
  | .alone n :: r, s, l, x, a, h => by
    have ih := mkS_count r s l x a h
    show (n :: mkS s r).count a + l.count a = (opens r).count a + (n :: alones r).count a + x.1.count a
    rw [List.count_cons, List.count_cons]
    omega
  | .open_ n :: r, s, l, x, a, h => by
    have ih := mkS_count r (n :: s) l x a h
    show (n :: mkS (n :: s) r).count a + l.count a = (n :: opens r).count a + (alones r).count a + x.1.count a
    rw [List.count_cons, List.count_cons]
    omega
  | .close n :: r, [], l, x, a, h => by
    have ih := mkS_count r [] (l ++ [n]) x a h
    show (n :: mkS [] r).count a + l.count a = (opens r).count a + (alones r).count a + x.1.count a
    rw [List.count_append] at ih
    rw [List.count_cons]
    rw [show ([n] : List Nat).count a = if n == a then 1 else 0 by rw [List.count_cons, List.count_nil, Nat.zero_add]] at ih
    omega
  | .close n :: r, k :: t, l, x, a, h => by
    by_cases q : k = n
    · have h' : halvesFrom t l r = some x := by
        simp only [halvesFrom, if_pos q] at h
        exact h
      exact mkS_count r t l x a h'
    · simp only [halvesFrom, if_neg q] at h
      cases h
theorem lefts_le : ∀ (r : Row) (s l : List Nat) (x : List Nat × List Nat) (a : Nat), halvesFrom s l r = some x → x.1.count a ≤ (closes r).count a + l.count a
  | [], s, l, x, a, h => by
    have : x = (l, s.reverse) := (Option.some.inj h).symm
    rw [this]
    show l.count a ≤ 0 + l.count a
    omega
  | .char _ :: r, s, l, x, a, h => lefts_le r s l x a h
  | .alone n :: r, s, l, x, a, h => lefts_le r s l x a h
  | .open_ n :: r, s, l, x, a, h => lefts_le r (n :: s) l x a h
  | .close n :: r, [], l, x, a, h => by
    have ih := lefts_le r [] (l ++ [n]) x a h
    show x.1.count a ≤ (n :: closes r).count a + l.count a
    rw [List.count_append] at ih
    rw [List.count_cons]
    rw [show ([n] : List Nat).count a = if n == a then 1 else 0 by rw [List.count_cons, List.count_nil, Nat.zero_add]] at ih
    omega
  | .close n :: r, k :: t, l, x, a, h => by
    by_cases q : k = n
    · have h' : halvesFrom t l r = some x := by
        simp only [halvesFrom, if_pos q] at h
        exact h
      have ih := lefts_le r t l x a h'
      show x.1.count a ≤ (n :: closes r).count a + l.count a
      rw [List.count_cons]
      omega
    · simp only [halvesFrom, if_neg q] at h
      cases h
theorem straight_iff (r : Row) : straight r = true ↔ ∃ x, halves r = some x ∧ ∀ a, (opens r).count a ≤ 1 ∧ (closes r).count a ≤ 1 ∧ (alones r).count a ≤ 1 ∧ (0 < (alones r).count a → (opens r).count a = 0 ∧ (closes r).count a = 0) ∧ (0 < x.1.count a → (opens r).count a = 0) := by
  unfold straight
  cases e : halves r with
  | none => exact ⟨fun z => (by cases z), fun ⟨x, h, _⟩ => by cases h⟩
  | some x =>
    dsimp only
    rw [Bool.and_eq_true, Bool.and_eq_true, Bool.and_eq_true, Bool.and_eq_true, decide_eq_true_eq, decide_eq_true_eq, decide_eq_true_eq, List.all_eq_true, List.all_eq_true, nodup_count, nodup_count, nodup_count]
    have nm : ∀ (n : Nat) (l : List Nat), (!l.contains n) = true ↔ l.count n = 0 := fun n l => by
      rw [List.count_eq_zero]
      simp
    constructor
    · rintro ⟨h1, h2, h3, h4, h5⟩
      refine ⟨x, rfl, fun a => ⟨h1 a, h2 a, h3 a, fun z => ?_, fun z => ?_⟩⟩
      · have := h4 a (List.count_pos_iff.mp z)
        rw [Bool.and_eq_true, nm, nm] at this
        exact this
      · exact (nm _ _).mp (h5 a (List.count_pos_iff.mp z))
    · rintro ⟨y, hy, h⟩
      obtain rfl : x = y := Option.some.inj hy
      refine ⟨fun a => (h a).1, fun a => (h a).2.1, fun a => (h a).2.2.1, fun a ha => ?_, fun a ha => ?_⟩
      · rw [Bool.and_eq_true, nm, nm]
        exact (h a).2.2.2.1 (List.count_pos_iff.mpr ha)
      · exact (nm _ _).mpr ((h a).2.2.2.2 (List.count_pos_iff.mpr ha))
theorem hvM_some (r : Row) (x : List Nat × List Nat) : hvM [] [] [] r = some x ↔ straight r = true ∧ halves r = some x := by
  rw [hvM_iff, straight_iff]
  constructor
  · rintro ⟨h1, h2, _⟩
    refine ⟨⟨x, h1, fun a => ?_⟩, h1⟩
    have c1 := mkS_count r [] [] x a h1
    have c2 := halves_count r [] [] x a h1
    have c3 := nodup_count.mp h2 a
    simp only [List.count_nil] at c1 c2
    refine ⟨by omega, by omega, by omega, fun z => ⟨by omega, by omega⟩, fun z => by omega⟩
  · rintro ⟨⟨y, hy, h⟩, h1⟩
    obtain rfl : y = x := Option.some.inj (hy.symm.trans h1)
    refine ⟨h1, nodup_count.mpr fun a => ?_, fun m _ => by simp⟩
    have c1 := mkS_count r [] [] y a h1
    have c2 := halves_count r [] [] y a h1
    have c3 := lefts_le r [] [] y a h1
    simp only [List.count_nil] at c1 c2 c3
    obtain ⟨a1, a2, a3, a4, a5⟩ := h a
    by_cases z1 : 0 < (alones r).count a
    · have := a4 z1
      omega
    · by_cases z2 : 0 < y.1.count a
      · have := a5 z2
        omega
      · omega
theorem hvM_is (r : Row) : hvM [] [] [] r = if straight r = true then halves r else none := by
  cases e : hvM [] [] [] r with
  | some x =>
    obtain ⟨h1, h2⟩ := (hvM_some r x).mp e
    rw [if_pos h1, h2]
  | none =>
    by_cases h : straight r = true
    · rw [if_pos h]
      obtain ⟨x, hx, _⟩ := (straight_iff r).mp h
      rw [(hvM_some r x).mpr ⟨h, hx⟩] at e
      cases e
    · rw [if_neg h]
theorem paired_hv (r : Row) : paired r = (hvM [] [] [] r == some ([], [])) := by
  rw [hvM_is]
  unfold paired
  cases e : straight r with
  | true => rw [if_pos rfl]; rfl
  | false => rw [if_neg (by simp)]; rfl
/-! ### a part of a paired row is straight -/
theorem pairM_pre : ∀ (a b : Row) (s u : List Nat), pairM s u (a ++ b) = true → s.Nodup → (∀ n ∈ s, n ∈ u) → ∃ s' u', pairM s' u' b = true ∧ s'.Nodup ∧ ∀ n ∈ s', n ∈ u'
  | [], b, s, u, h, h1, h2 => ⟨s, u, h, h1, h2⟩
  | .char _ :: a, b, s, u, h, h1, h2 => pairM_pre a b s u h h1 h2
  | .open_ n :: a, b, s, u, h, h1, h2 => by
    have h : (!u.contains n && pairM (n :: s) (n :: u) (a ++ b)) = true := h
    rw [Bool.and_eq_true] at h
    have hn : n ∉ u := by simpa using h.1
    refine pairM_pre a b (n :: s) (n :: u) h.2 (List.nodup_cons.mpr ⟨fun z => hn (h2 n z), h1⟩) fun m hm => ?_
    rcases List.mem_cons.mp hm with rfl | z
    · exact List.mem_cons_self ..
    · exact List.mem_cons_of_mem _ (h2 m z)
  | .alone n :: a, b, s, u, h, h1, h2 => by
    have h : (!u.contains n && pairM s (n :: u) (a ++ b)) = true := h
    rw [Bool.and_eq_true] at h
    exact pairM_pre a b s (n :: u) h.2 h1 fun m hm => List.mem_cons_of_mem _ (h2 m hm)
  | .close n :: a, b, [], u, h, h1, h2 => Bool.noConfusion h
  | .close n :: a, b, m :: t, u, h, h1, h2 => by
    have h : (m == n && pairM t u (a ++ b)) = true := h
    rw [Bool.and_eq_true] at h
    exact pairM_pre a b t u h.2 (List.nodup_cons.mp h1).2 fun k hk => h2 k (List.mem_cons_of_mem _ hk)
theorem pairM_mid : ∀ (a b : Row) (s t u v l : List Nat), pairM (s ++ t) u (a ++ b) = true → (s ++ t).Nodup → (∀ n ∈ s ++ t, n ∈ u) → (∀ n ∈ v, n ∈ u) → (∀ n ∈ t, n ∉ v) → ∃ y, hvM l s v a = some y
  | [], b, s, t, u, v, l, _, _, _, _, _ => ⟨_, rfl⟩
  | .char _ :: a, b, s, t, u, v, l, h, h1, h2, h3, h4 => pairM_mid a b s t u v l h h1 h2 h3 h4
  | .open_ n :: a, b, s, t, u, v, l, h, h1, h2, h3, h4 => by
    have h : (!u.contains n && pairM (n :: (s ++ t)) (n :: u) (a ++ b)) = true := h
    rw [Bool.and_eq_true] at h
    have hn : n ∉ u := by simpa using h.1
    show ∃ y, (if v.contains n = true then none else hvM l (n :: s) (n :: v) a) = some y
    rw [if_neg (by simpa using fun z => hn (h3 n z))]
    refine pairM_mid a b (n :: s) t (n :: u) (n :: v) l h.2 (List.nodup_cons.mpr ⟨fun z => hn (h2 n z), h1⟩) (fun m hm => ?_) (fun m hm => ?_) fun m hm z => ?_
    · rcases List.mem_cons.mp hm with rfl | z
      · exact List.mem_cons_self ..
      · exact List.mem_cons_of_mem _ (h2 m z)
    · rcases List.mem_cons.mp hm with rfl | z
      · exact List.mem_cons_self ..
      · exact List.mem_cons_of_mem _ (h3 m z)
    · rcases List.mem_cons.mp z with e | z
      · exact hn (h2 n (List.mem_append_right _ (e ▸ hm)))
      · exact h4 m hm z
  | .alone n :: a, b, s, t, u, v, l, h, h1, h2, h3, h4 => by
    have h : (!u.contains n && pairM (s ++ t) (n :: u) (a ++ b)) = true := h
    rw [Bool.and_eq_true] at h
    have hn : n ∉ u := by simpa using h.1
    show ∃ y, (if v.contains n = true then none else hvM l s (n :: v) a) = some y
    rw [if_neg (by simpa using fun z => hn (h3 n z))]
    refine pairM_mid a b s t (n :: u) (n :: v) l h.2 h1 (fun m hm => List.mem_cons_of_mem _ (h2 m hm)) (fun m hm => ?_) fun m hm z => ?_
    · rcases List.mem_cons.mp hm with rfl | z
      · exact List.mem_cons_self ..
      · exact List.mem_cons_of_mem _ (h3 m z)
    · rcases List.mem_cons.mp z with e | z
      · exact hn (h2 n (List.mem_append_right _ (e ▸ hm)))
      · exact h4 m hm z
  | .close n :: a, b, [], [], u, v, l, h, _, _, _, _ => Bool.noConfusion h
  | .close n :: a, b, [], m :: t, u, v, l, h, h1, h2, h3, h4 => by
    have h : (m == n && pairM t u (a ++ b)) = true := h
    rw [Bool.and_eq_true] at h
    obtain rfl : m = n := by simpa using h.1
    have h1 : (m :: t).Nodup := h1
    have h2 : ∀ k ∈ m :: t, k ∈ u := h2
    show ∃ y, (if v.contains m = true then none else hvM (l ++ [m]) [] (m :: v) a) = some y
    rw [if_neg (by simpa using h4 m (List.mem_cons_self ..))]
    refine pairM_mid a b [] t u (m :: v) (l ++ [m]) h.2 (List.nodup_cons.mp h1).2 (fun k hk => h2 k (List.mem_cons_of_mem _ hk)) (fun k hk => ?_) fun k hk z => ?_
    · rcases List.mem_cons.mp hk with rfl | z
      · exact h2 _ (List.mem_cons_self ..)
      · exact h3 k z
    · rcases List.mem_cons.mp z with e | z
      · exact (List.nodup_cons.mp h1).1 (e ▸ hk)
      · exact h4 k (List.mem_cons_of_mem _ hk) z
  | .close n :: a, b, m :: s, t, u, v, l, h, h1, h2, h3, h4 => by
    have h : (m == n && pairM (s ++ t) u (a ++ b)) = true := h
    rw [Bool.and_eq_true] at h
    obtain rfl : m = n := by simpa using h.1
    have h1 : (m :: (s ++ t)).Nodup := h1
    have h2 : ∀ k ∈ m :: (s ++ t), k ∈ u := h2
    show ∃ y, (if m = m then hvM l s v a else none) = some y
    rw [if_pos rfl]
    exact pairM_mid a b s t u v l h.2 (List.nodup_cons.mp h1).2 (fun k hk => h2 k (List.mem_cons_of_mem _ hk)) h3 h4
theorem part_straight {a b c : Row} (h : paired (a ++ (b ++ c)) = true) : straight b = true ∧ ∃ y, hvM [] [] [] b = some y ∧ halves b = some y := by
  rw [paired_is] at h
  obtain ⟨s, u, h1, h2, h3⟩ := pairM_pre a (b ++ c) [] [] h List.nodup_nil (fun n hn => absurd hn (by simp))
  obtain ⟨y, hy⟩ := pairM_mid b c [] s u [] [] h1 h2 h3 (fun n hn => absurd hn (by simp)) (fun n _ => by simp)
  have := (hvM_some b y).mp hy
  exact ⟨this.1, y, hy, this.2⟩
end Sg

/-! SgRw3 -/
set_option Elab.async false
set_option linter.all false
set_option maxRecDepth 100000
set_option maxHeartbeats 4000000
namespace Sg
open PySem PySem.Spec PyProof.Rows L2
theorem nvs_snoc (l : List Nat) (n : Nat) : nvs (l ++ [n]) = nvs l ++ [V.int (n : Nat)] := by
  unfold nvs
  rw [List.map_append]
  rfl
/-- numbers as data -/
def dnats (l : List Nat) : List PyData := l.map fun (n : Nat) => PyData.int (n : Nat)
theorem eqvAll_nats : ∀ (l m : List Nat), PyData.eqvAll (dnats l) (dnats m) = decide (l = m)
  | [], [] => by simp [dnats, PyData.eqvAll]
  | [], _ :: _ => by simp [dnats, PyData.eqvAll]
  | _ :: _, [] => by simp [dnats, PyData.eqvAll]
  | a :: l, b :: m => by
    have ih := eqvAll_nats l m
    have : PyData.eqvAll (dnats (a :: l)) (dnats (b :: m)) = (PyData.eqv (.int (a : Nat)) (.int (b : Nat)) && PyData.eqvAll (dnats l) (dnats m)) := by
      simp [dnats, PyData.eqvAll]
    rw [this, ih]
    have e : PyData.eqv (.int (a : Nat)) (.int (b : Nat)) = decide (a = b) := by
      have : PyData.eqv (.int (a : Nat)) (.int (b : Nat)) = (((a : Nat) : Int) == ((b : Nat) : Int)) := by simp [PyData.eqv]
      rw [this]
      by_cases q : a = b
      · rw [q]; simp
      · rw [decide_eq_false q]
        exact beq_eq_false_iff_ne.mpr (by omega)
    rw [e]
    by_cases q : a = b
    · by_cases q2 : l = m
      · rw [decide_eq_true q, decide_eq_true q2, decide_eq_true (by rw [q, q2])]; rfl
      · rw [decide_eq_true q, decide_eq_false q2, decide_eq_false (by simp [q2])]; rfl
    · rw [decide_eq_false q, decide_eq_false (show ¬ (a :: l = b :: m) from fun z => q (List.cons.inj z).1)]; rfl
/-- two lists of numbers in a tuple, as data -/
def dtwo (x : List Nat × List Nat) : PyData := .tuple [.list (dnats x.1), .list (dnats x.2)]
def dopt : Option (List Nat × List Nat) → PyData
  | none => .none
  | some x => dtwo x
theorem eqv_two2 (x y : List Nat × List Nat) : PyData.eqv (dtwo x) (dtwo y) = decide (x = y) := by
  have : PyData.eqv (dtwo x) (dtwo y) = (PyData.eqvAll (dnats x.1) (dnats y.1) && PyData.eqvAll (dnats x.2) (dnats y.2)) := by
    simp [dtwo, PyData.eqv, PyData.eqvAll]
  rw [this, eqvAll_nats, eqvAll_nats]
  obtain ⟨a, b⟩ := x
  obtain ⟨c, d⟩ := y
  by_cases q : a = c
  · by_cases q2 : b = d
    · rw [decide_eq_true q, decide_eq_true q2, decide_eq_true (by rw [show a = c from q, show b = d from q2])]; rfl
    · rw [decide_eq_true q, decide_eq_false q2, decide_eq_false (fun z => q2 (Prod.mk.inj z).2)]; rfl
  · rw [decide_eq_false q, decide_eq_false (fun z => q (Prod.mk.inj z).1)]; rfl
theorem eqv_opt (x y : Option (List Nat × List Nat)) : PyData.eqv (dopt x) (dopt y) = decide (x = y) := by
  cases x with
  | none =>
    cases y with
    | none => rfl
    | some y => rfl
  | some x =>
    cases y with
    | none => rfl
    | some y =>
      show PyData.eqv (dtwo x) (dtwo y) = _
      rw [eqv_two2]
      by_cases q : x = y
      · rw [decide_eq_true q, decide_eq_true (by rw [q])]
      · rw [decide_eq_false q, decide_eq_false (fun z => q (Option.some.inj z))]
theorem lay_nats : ∀ l : List Nat, PyData.canLayAll0 (dnats l) = true ∧ PyData.depthAll (dnats l) ≤ 1
  | [] => by simp [dnats, PyData.canLayAll0, PyData.depthAll]
  | a :: l => by
    obtain ⟨h1, h2⟩ := lay_nats l
    have e1 : PyData.canLayAll0 (dnats (a :: l)) = (PyData.canLay0 (.int (a : Nat)) && PyData.canLayAll0 (dnats l)) := by simp [dnats, PyData.canLayAll0]
    have e2 : PyData.depthAll (dnats (a :: l)) = max (PyData.depth (.int (a : Nat))) (PyData.depthAll (dnats l)) := by simp [dnats, PyData.depthAll]
    rw [e1, e2, h1]
    exact ⟨by simp [PyData.canLay0], by simp [PyData.depth]; omega⟩
theorem shaped_opt (x : Option (List Nat × List Nat)) : SeqAt.shaped (dopt x) = true := by
  cases x with
  | none => rfl
  | some x =>
    obtain ⟨a1, a2⟩ := lay_nats x.1
    obtain ⟨b1, b2⟩ := lay_nats x.2
    simp only [dopt, dtwo, SeqAt.shaped, PyData.canLay0, PyData.canLayAll0, PyData.depth, PyData.depthAll, a1, b1, Bool.and_true, Bool.true_and, decide_eq_true_eq]
    omega
theorem dp_nats {K : PySem.W.Frag} {H : Hp} : ∀ l : List Nat, DpAll K H (nvs l) (dnats l)
  | [] => .nil
  | _ :: l => .cons (.int _) (dp_nats l)
/-- what halves gives: None, or a tuple of two lists -/
def HvAt (H : Hp) (v : V) : Option (List Nat × List Nat) → Prop
  | none => v = .non
  | some y => ∃ t a b : Addr, v = .ref t ∧ H t = some (.tup [.ref a, .ref b]) ∧ H a = some (.lst (nvs y.1)) ∧ H b = some (.lst (nvs y.2))
theorem HvAt.same {H H' : Hp} {v : V} {y : Option (List Nat × List Nat)} (h : HvAt H v y) (s : Same H H') : HvAt H' v y := by
  cases y with
  | none => exact h
  | some y =>
    obtain ⟨t, a, b, h0, h1, h2, h3⟩ := h
    exact ⟨t, a, b, h0, s _ _ h1, s _ _ h2, s _ _ h3⟩
theorem HvAt.dp {K : PySem.W.Frag} {H : Hp} {v : V} {y : Option (List Nat × List Nat)} (h : HvAt H v y) : Dp K H v (dopt y) := by
  cases y with
  | none =>
    rw [show v = .non from h]
    exact .non
  | some y =>
    obtain ⟨t, a, b, rfl, h1, h2, h3⟩ := h
    exact .tup (.inl (.inl h1)) (.cons (.lst (SqL.of h2) (dp_nats _)) (.cons (.lst (SqL.of h3) (dp_nats _)) .nil))
section
variable {P : Program} {w : World} {K : PySem.W.Frag} {mg : Str → Option Value} {base : Heap} {CF CR CW : Addr}
/-! ### halves -/
def spHalves : Sp := fun vs H Q _ => ∃ (l : Addr) (r : Fh.Row) (F : Addr → Prop), vs = [.ref l] ∧ RowAt F H l r ∧ r.length ≤ 262144 ∧ ∀ (v : V) (H' : Hp), Same H H' → HvAt H' v (hvM [] [] [] r) → Q v H'
theorem scHalves : FnScope ["pieces", "left", "pile", "seen", "kind", "number"] ["pieces"] (defScope sHalves) := ⟨rfl, rfl, rfl, by decide +kernel, rfl, by decide +kernel, by decide +kernel⟩
theorem ok_halves {f : Addr} {fd : FuncData} (F : Fun K "halves" "halves" sHalves f fd) (TW : TxW mg) : FnOk P w K mg base CX0 2 f fd ["pieces"] spHalves := by
  refine F.ok scHalves (fun vs H Q E h => ?_) (fun cdv A outer s H vs Q E hr h => ?_)
  · obtain ⟨l, r, G, rfl, _⟩ := h
    rfl
  · obtain ⟨lo, r, G, rfl, ⟨_, xs, hx, hP⟩, hlen, k⟩ := h
    have hu := hu_of hr
    refine ⟨_, pss_cons (ps_set (i := 1) scHalves.nd rfl (Or.inl rfl) (pe_lst pa_nil))
      (pss_cons (ps_set (i := 2) scHalves.nd rfl (Or.inl rfl) (pe_lst pa_nil))
      (pss_cons (ps_set (i := 3) scHalves.nd rfl (Or.inl rfl) pe_dnewK)
      (pss_cons (ps_for PassesOwn.never rfl (pi_list (pv 0)) (pg_tup rfl (pgs_cons (pg_name (i := 4) scHalves.nd rfl (Or.inl rfl)) (pgs_cons (pg_name (i := 5) scHalves.nd rfl (Or.inl rfl)) pgs_nil)))
        (pss_one (ps_if (PW.pt (pw_and (pt_cmpR op_eq (pv 4) (pe_k TW.closes (by rfl)) (nomark _)) (pw_and1 (pt_truth (pv 2) (by intro _; rfl)))))
          (pss_one (ps_if (pt_cmpR op_ne (pe_bm0 PySem.F.plainAttrs_list PySem.F.slot_list_pop PySem.F.type_list_pop mt_pop (pv 2)) (pv 5) (nomark _)) (pss_one (ps_ret pe_non)) pss_nil))
          (pss_one (ps_if (pt_cmpR op_ne (pv 4) (pe_k TW.char (by rfl)) (nomark _))
            (pss_cons (ps_if (pt_cmp (pc_din hu (pv 5) (pv 3))) (pss_one (ps_ret pe_non)) pss_nil)
            (pss_cons (ps_dput hu (pv 3) (pv 5) pe_bl rfl)
            (pss_one (ps_if (pt_cmpR op_eq (pv 4) (pe_k TW.opens (by rfl)) (nomark _))
              (pss_one (ps_expr (pe_bm PySem.F.plainAttrs_list PySem.F.slot_list_append PySem.F.type_list_append mt_append (pv 2) (pa_cons (pv 5) pa_nil))))
              (pss_one (ps_if (pt_cmpR op_eq (pv 4) (pe_k TW.closes (by rfl)) (nomark _))
                (pss_one (ps_expr (pe_bm PySem.F.plainAttrs_list PySem.F.slot_list_append PySem.F.type_list_append mt_append (pv 1) (pa_cons (pv 5) pa_nil)))) pss_nil)))))) pss_nil)))))
      (pss_one (ps_ret (pe_tup (pa_cons (pv 1) (pa_cons (pv 2) pa_nil)))))))), ?_⟩
    refine ⟨(by show 0 ≤ sizeLine; decide), fun M hM => ?_⟩
    refine ⟨(by show 0 ≤ sizeLine; decide), fun L hLM => ?_⟩
    refine fun D hD => ?_
    have hLM' : L ≠ M := (fresh_new hLM).1
    have hL : H L = none := (fresh_new hLM).2
    have hDL : D ≠ L := (fresh_new hD).1
    have hDM : D ≠ M := (fresh_new (fresh_new hD).2).1
    have hDH : H D = none := (fresh_new (fresh_new hD).2).2
    have hS0 : Same H (upd (upd (upd H M (.lst [])) L (.lst [])) D (.dK [])) := ((same_new hM).trans (same_new hLM)).trans (same_new hD)
    have h70 : (262146 : Nat) < sizeLine := by decide
    refine ⟨_, rfl, lo, rfl, ⟨_, SqL.of (hS0 _ _ hx)⟩, for_list (xs := xs.map V.ref) (fun i σ H' => ∃ (a b : Option V) (lf st u : List Nat) (kvs : List (Key × V)), σ = [some (.ref lo), some (.ref M), some (.ref L), some (.ref D), a, b] ∧ Same H H' ∧ H' M = some (.lst (nvs lf)) ∧ H' L = some (.lst (nvs st.reverse)) ∧ H' D = some (.dK kvs) ∧
        (∀ n : Nat, (valV kvs (Sum.inl ((n : Nat) : Int) : Key)).isSome = u.contains n) ∧ kvs.length ≤ i ∧ st.length ≤ i ∧ lf.length ≤ i ∧ hvM [] [] [] r = hvM lf st u (r.drop i))
      ⟨none, none, [], [], [], [], rfl, hS0, ?_, ?_, upd_same, fun n => rfl, Nat.zero_le _, Nat.zero_le _, Nat.zero_le _, rfl⟩ ?_ ?_ ?_⟩
    · rw [upd_ne (Ne.symm hDM), upd_ne (Ne.symm hLM')]
      exact upd_same
    · rw [upd_ne (Ne.symm hDL)]
      exact upd_same
    · rintro i σ H' _ ⟨a, b, lf, st, u, kvs, rfl, hS, _⟩
      exact SqL.of (hS _ _ hx)
    · rintro i v σ H' hv ⟨a, b, lf, st, u, kvs, rfl, hS, hHM, hHL, hHD, hkey, hkl, hsl, hll, heq⟩
      rw [List.getElem?_map] at hv
      cases hy : xs[i]? with
      | none => rw [hy] at hv; cases hv
      | some y =>
        rw [hy] at hv
        obtain rfl : V.ref y = v := Option.some.inj hv
        obtain ⟨pc, hpc, _, hY⟩ := paired_get hP hy
        have hi : i < r.length := (List.getElem?_eq_some_iff.mp hpc).1
        have hdr : r.drop i = pc :: r.drop (i + 1) := by
          rw [List.drop_eq_getElem_cons hi, (List.getElem?_eq_some_iff.mp hpc).2]
        rw [hdr] at heq
        have none' : hvM [] [] [] r = none → ∀ H2 : Hp, Same H' H2 → Q .non H2 := fun z H2 s2 => k _ _ (hS.trans s2) (by rw [z]; exact rfl)
        refine ⟨y, _, rfl, .inl (.inl (hS _ _ hY)), rfl, _, _, rfl, _, _, rfl, rfl, ?_⟩
        -- a number that comes new
        have mark : ∀ (c n : Nat) (op cl : Bool), c ≠ 0 → decide (c = 43) = op → decide (c = 45) = cl → (op = true → cl = false) →
            hvM [] [] [] r = (if u.contains n = true then none else hvM (if cl = true then lf ++ [n] else lf) (if op = true then n :: st else st) (n :: u) (r.drop (i + 1))) →
            tIfS (tTest (tOp rNe (tVar 4) (tC (V.int 0)))) (tSeq (tIfS (tB (tDIn (tVar 5) (tVar 3))) (tRet (tC .non)) tNext) (tSeq (sDPut (tVar 3) (tVar 5) (tC (V.bl true))) (tIfS (tTest (tOp rEq (tVar 4) (tC (V.int 43)))) (tDrop (tBM K "list" rAppend (tVar 2) (tCons (tVar 5) tNil)))
                (tIfS (tTest (tOp rEq (tVar 4) (tC (V.int 45)))) (tDrop (tBM K "list" rAppend (tVar 1) (tCons (tVar 5) tNil))) tNext)))) tNext
              { nx := fun σ H' => ∃ (a b : Option V) (lf st u : List Nat) (kvs : List (Key × V)), σ = [some (.ref lo), some (.ref M), some (.ref L), some (.ref D), a, b] ∧ Same H H' ∧ H' M = some (.lst (nvs lf)) ∧ H' L = some (.lst (nvs st.reverse)) ∧ H' D = some (.dK kvs) ∧
                  (∀ n : Nat, (valV kvs (Sum.inl ((n : Nat) : Int) : Key)).isSome = u.contains n) ∧ kvs.length ≤ i + 1 ∧ st.length ≤ i + 1 ∧ lf.length ≤ i + 1 ∧ hvM [] [] [] r = hvM lf st u (r.drop (i + 1)), rt := Q }
              [some (.ref lo), some (.ref M), some (.ref L), some (.ref D), some (.int (c : Nat)), some (.int (n : Nat))] H' := by
          intro c n op cl c0 c43 c45 oc hp
          refine ⟨_, rfl, rfl, _, rfl, ?_⟩
          rw [show decide (V.int (c : Nat) = V.int 0) = false from (decI (b := 0)).trans (decide_eq_false c0)]
          refine iteT ⟨_, rfl, _, rfl, D, _, rfl, DGet.k (k := Sum.inl ((n : Nat) : Int)) hHD, _, rfl, ?_⟩
          rw [hkey n]
          cases hc : u.contains n with
          | true =>
            rw [hc] at hp
            exact iteT (none' hp _ (Same.refl _))
          | false =>
            refine iteF ⟨_, rfl, _, rfl, D, _, rfl, DPut.k (k := Sum.inl ((n : Nat) : Int)) hHD (by omega), ?_⟩
            rw [hc] at hp
            replace hp : hvM [] [] [] r = hvM (if cl = true then lf ++ [n] else lf) (if op = true then n :: st else st) (n :: u) (r.drop (i + 1)) := hp
            have hS2 : Same H (upd H' D (.dK (putK kvs (Sum.inl ((n : Nat) : Int)) (.bl true)))) := fun c' o e => by
              rw [upd_ne (ne_of_none e hDH)]
              exact hS c' o e
            have hL2 : upd H' D (.dK (putK kvs (Sum.inl ((n : Nat) : Int)) (.bl true))) L = some (.lst (nvs st.reverse)) := by
              rw [upd_ne (Ne.symm hDL)]
              exact hHL
            have hM2 : upd H' D (.dK (putK kvs (Sum.inl ((n : Nat) : Int)) (.bl true))) M = some (.lst (nvs lf)) := by
              rw [upd_ne (Ne.symm hDM)]
              exact hHM
            have hk2 : ∀ m : Nat, (valV (putK kvs (Sum.inl ((n : Nat) : Int)) (.bl true)) (Sum.inl ((m : Nat) : Int) : Key)).isSome = (n :: u).contains m := fun m => by
              rw [valV_put, List.contains_cons]
              by_cases z : m = n
              · subst z
                rw [if_pos rfl]
                simp
              · rw [if_neg (fun q => z (by have := Sum.inl.inj q; omega)), hkey m, show (m == n) = false from by simp [z]]
                rfl
            have hl2 := length_putK kvs (Sum.inl ((n : Nat) : Int) : Key) (.bl true)
            refine ⟨_, rfl, rfl, _, rfl, ?_⟩
            rw [show decide (V.int (c : Nat) = V.int 43) = op from (decI (b := 43)).trans c43]
            cases op with
            | true =>
              rw [oc rfl] at hp
              refine iteT ⟨_, rfl, .inl ⟨rfl, _, SqL.of hL2⟩, _, rfl, L, _, _, rfl, rfl, hL2, ?_, ?_⟩
              · rw [nvs_len, List.length_reverse]
                omega
              · refine ⟨_, _, lf, n :: st, n :: u, _, rfl, fun c' o e => ?_, ?_, ?_, ?_, hk2, by omega, by rw [List.length_cons]; omega, by omega, hp⟩
                · rw [upd_ne (ne_of_none e hL)]
                  exact hS2 c' o e
                · rw [upd_ne (Ne.symm hLM')]
                  exact hM2
                · rw [upd_same, List.reverse_cons, nvs_snoc]
                · rw [upd_ne hDL, upd_same]
            | false =>
              refine iteF ⟨_, rfl, rfl, _, rfl, ?_⟩
              rw [show decide (V.int (c : Nat) = V.int 45) = cl from (decI (b := 45)).trans c45]
              cases cl with
              | false =>
                exact iteF ⟨_, _, lf, st, n :: u, _, rfl, hS2, hM2, hL2, upd_same, hk2, by omega, by omega, by omega, hp⟩
              | true =>
                refine iteT ⟨_, rfl, .inl ⟨rfl, _, SqL.of hM2⟩, _, rfl, M, _, _, rfl, rfl, hM2, ?_, ?_⟩
                · rw [nvs_len]
                  omega
                · refine ⟨_, _, lf ++ [n], st, n :: u, _, rfl, fun c' o e => ?_, ?_, ?_, ?_, hk2, by omega, by omega, by rw [List.length_append]; simp; omega, hp⟩
                  · rw [upd_ne (ne_of_none e hM)]
                    exact hS2 c' o e
                  · rw [upd_same, nvs_snoc]
                  · rw [upd_ne hLM']
                    exact hL2
                  · rw [upd_ne hDM, upd_same]
        cases pc with
        | char c =>
          refine ⟨_, rfl, rfl, _, rfl, ?_⟩
          refine iteF (iteF ⟨_, rfl, rfl, _, rfl, ?_⟩)
          exact iteF ⟨_, _, lf, st, u, kvs, rfl, hS, hHM, hHL, hHD, hkey, by omega, by omega, by omega, heq⟩
        | open_ n =>
          refine ⟨_, rfl, rfl, _, rfl, ?_⟩
          exact iteF (iteF (mark 43 n true false (by omega) rfl rfl (fun _ => rfl) heq))
        | alone n =>
          refine ⟨_, rfl, rfl, _, rfl, ?_⟩
          exact iteF (iteF (mark 46 n false false (by omega) rfl rfl (fun _ => rfl) heq))
        | close n =>
          refine ⟨_, rfl, rfl, _, rfl, ?_⟩
          refine iteT ⟨_, rfl, _, .inl ⟨_, SqL.of hHL, rfl⟩, ?_⟩
          cases st with
          | nil => exact iteF (mark 45 n false true (by omega) rfl rfl (fun z => by cases z) heq)
          | cons m t =>
            have e0 : (nvs (m :: t).reverse) = nvs t.reverse ++ [V.int (m : Nat)] := by
              rw [List.reverse_cons, nvs_snoc]
            rw [show (!(nvs (m :: t).reverse).isEmpty) = true by rw [e0]; simp]
            refine iteT ⟨_, rfl, .inl ⟨rfl, _, SqL.of hHL⟩, L, _, V.int (m : Nat), rfl, rfl, hHL, ?_, _, rfl, rfl, _, rfl, ?_⟩
            · rw [e0]
              simp
            · have hp : hvM [] [] [] r = (if m = n then hvM lf t u (r.drop (i + 1)) else none) := heq
              have hd : (nvs (m :: t).reverse).dropLast = nvs t.reverse := by
                rw [e0, List.dropLast_concat]
              have hS2 : Same H (upd H' L (.lst (nvs (m :: t).reverse).dropLast)) := fun c' o e => by
                rw [upd_ne (ne_of_none e hL)]
                exact hS c' o e
              rw [decI, show tagN (Fh.Piece.close n) = n from rfl]
              by_cases z : m = n
              · rw [decide_eq_true z]
                rw [if_pos z] at hp
                refine iteF ⟨_, _, lf, t, u, kvs, rfl, hS2, ?_, ?_, ?_, hkey, by omega, by rw [List.length_cons] at hsl; omega, by omega, hp⟩
                · rw [upd_ne (Ne.symm hLM')]
                  exact hHM
                · rw [upd_same, hd]
                · rw [upd_ne hDL]
                  exact hHD
              · rw [decide_eq_false z]
                rw [if_neg z] at hp
                exact iteT (k _ _ hS2 (by rw [hp]; exact rfl))
    · rintro σ H' ⟨a, b, lf, st, u, kvs, rfl, hS, hHM, hHL, hHD, hkey, hkl, hsl, hll, heq⟩
      rw [List.drop_eq_nil_of_le (by rw [List.length_map, hP.length]; omega)] at heq
      refine ⟨_, rfl, _, rfl, (by show 2 ≤ sizeLine; decide), fun t ht => ?_⟩
      refine k _ _ (hS.trans (same_new ht)) ?_
      rw [heq]
      exact ⟨t, M, L, rfl, upd_same, same_new ht _ _ hHM, same_new ht _ _ hHL⟩
/-! ### is_paired -/
def spPaired (CW : Addr) (K : PySem.W.Frag) : Sp := fun vs H Q _ => ∃ (x a : Addr) (b : Fh.Bytes) (f : Nat) (r : Fh.Row) (F : Addr → Prop), vs = [.ref x] ∧ RowO CW K F H x a b f r ∧ r.length ≤ 262144 ∧ ∀ H', Same H H' → Q (.bl (Fh.paired r)) H'
theorem scPaired : FnScope ["row"] ["row"] (defScope sPaired) := ⟨rfl, rfl, rfl, by decide +kernel, rfl, by decide +kernel, by decide +kernel⟩
theorem ok_paired {f : Addr} {fd : FuncData} (F : Fun K "is_paired" "is_paired" sPaired f fd) (TO : TxO K CW) (GH : CallOk P w K mg base CX0 2 "halves" ["pieces"] spHalves) : FnOk P w K mg base CX0 3 f fd ["row"] (spPaired CW K) := by
  refine F.ok scPaired (fun vs H Q E h => ?_) (fun cdv A outer s H vs Q E hr h => ?_)
  · obtain ⟨x, a, b, f, r, G, rfl, _⟩ := h
    rfl
  · obtain ⟨x, a0, b0, f0, r, G, rfl, ⟨_, dxo, lo, so, hxo, hL, _, _, _, _⟩, hlen, k⟩ := h
    refine ⟨_, pss_one (ps_ret (pe_cmpR (op_eqD hr.units) (pe_c GH hr (by rfl) pass0 (by exact (pa_cons (pe_fld (pv 0) rfl) pa_nil))) (pe_tup (pa_cons (pe_lst pa_nil) (pa_cons (pe_lst pa_nil) pa_nil))) (nomark _))), ?_⟩
    refine ⟨_, rfl, x, CW, dxo, _, _, rfl, hxo, TO.cl, TO.n2, woF_2 _ _ _, lo, r, G, rfl, hL, hlen, fun v H1 s1 hv => ?_⟩
    refine ⟨(by show 0 ≤ sizeLine; decide), fun a ha => ⟨(by show 0 ≤ sizeLine; decide), fun b hb => ⟨(by show 2 ≤ sizeLine; decide), fun t ht => ?_⟩⟩⟩
    have s2 : Same H1 (upd (upd H1 a (.lst [])) b (.lst [])) := (same_new ha).trans (same_new hb)
    have s3 := same_new (o := .tup [.ref a, .ref b]) ht
    have ha2 : (upd (upd H1 a (.lst [])) b (.lst [])) a = some (.lst []) := by
      rw [upd_ne (Ne.symm (fresh_new hb).1), upd_same]
    refine ⟨dopt (hvM [] [] [] r), dopt (some ([], [])), (hv.same (s2.trans s3)).dp, HvAt.dp (y := some ([], [])) ⟨t, a, b, rfl, upd_same, s3 _ _ ha2, s3 _ _ upd_same⟩, shaped_opt _, shaped_opt _, ?_⟩
    rw [eqv_opt]
    have e : decide (hvM [] [] [] r = some ([], [])) = Fh.paired r := by
      rw [paired_hv]
      by_cases q : hvM [] [] [] r = some ([], [])
      · rw [decide_eq_true q, q]
        rfl
      · rw [decide_eq_false q]
        exact (beq_eq_false_iff_ne.mpr q).symm
    rw [e]
    exact k _ ((s1.trans s2).trans s3)
end
end Sg

/-! SgCh -/
set_option Elab.async false
set_option linter.all false
set_option maxRecDepth 100000
set_option maxHeartbeats 4000000
namespace Sg
open PySem PySem.Spec PyProof.Rows L2
section
variable {P : Program} {w : World} {K : PySem.W.Frag} {mg : Str → Option Value} {base : Heap} {CW : Addr}
/-! ### characters_of -/
theorem chars_len (r : Fh.Row) : (Fh.charsOf r).length ≤ r.length := List.length_filterMap_le ..
theorem chars_app (r s : Fh.Row) : Fh.charsOf (r ++ s) = Fh.charsOf r ++ Fh.charsOf s := List.filterMap_append ..
theorem same_newR {H H' : Hp} {D : Addr} {o : HO} (s : Same H H') (n : H D = none) : Same H (upd H' D o) := fun c u e => by
  rw [upd_ne (ne_of_none e n)]
  exact s c u e
theorem tagK_char {p : Fh.Piece} : decide (V.int (tagK p : Nat) = V.int 0) = !p.isTag := by
  cases p <;> rfl
def spChars (CW : Addr) (K : PySem.W.Frag) : Sp := fun vs H Q _ => ∃ (x a : Addr) (b : Fh.Bytes) (f : Nat) (r : Fh.Row) (F : Addr → Prop), vs = [.ref x] ∧ RowO CW K F H x a b f r ∧ r.length ≤ 262144 ∧ ∀ (H' : Hp) (D : Addr), Same H H' → H D = none → H' D = some (.lst (nvs (Fh.charsOf r))) → Q (.ref D) H'
theorem scChars : FnScope ["row", "kind", "number"] ["row"] (defScope sChars) := ⟨rfl, rfl, rfl, by decide +kernel, rfl, by decide +kernel, by decide +kernel⟩
theorem ok_chars {f : Addr} {fd : FuncData} (F : Fun K "characters_of" "characters_of" sChars f fd) (TW : TxW mg) (TO : TxO K CW) : FnOk P w K mg base CX0 2 f fd ["row"] (spChars CW K) := by
  refine F.ok scChars (fun vs H Q E h => ?_) (fun cdv A outer s H vs Q E hr h => ?_)
  · obtain ⟨x, a, b, f, r, G, rfl, _⟩ := h
    rfl
  · obtain ⟨x, a0, b0, f0, r, G, rfl, ⟨_, dxo, lo, so, hxo, ⟨_, ys, hy, hP⟩, _⟩, hr4, k⟩ := h
    refine ⟨_, pss_one (ps_ret (pe_lc (own := [("kind", 1), ("number", 2)]) (g := gTup K 2 (gCons (gName 1) (gCons (gName 2) gNil))) (tt := tTest (tOp rEq (tVar 1) (tC (.int 0)))) (te := tVar 2) rfl scChars.nd (pi_list (pe_fld (pv 0) rfl)) (blkOk_by (N := ["row", "kind", "number"]) (sc := defScope sChars) (by decide +kernel))
          (fun _ _ _ _ _ => pg_tup rfl (pgs_cons (pg_name (i := 1) scChars.nd rfl (Or.inl rfl)) (pgs_cons (pg_name (i := 2) scChars.nd rfl (Or.inl rfl)) pgs_nil))) (fun _ _ _ _ _ => pts_one (by exact (pt_cmpR op_eq (pv 1) (pe_k TW.char (by rfl)) (nomark _)))) (fun _ _ _ _ _ => by exact (pv 2)))), ?_⟩
    have h9k : (300000 : Nat) < sizeLine := by decide
    have hcl := chars_len r
    refine ⟨_, rfl, x, CW, dxo, _, _, rfl, hxo, TO.cl, TO.n2, woF_2 _ _ _, lo, rfl, ⟨_, SqL.of hy⟩, fun D hD => ?_⟩
    refine lc_list (K := K) (a := lo) (xs := ys.map V.ref) (fun i H' => Same H H' ∧ H' D = some (.lst (nvs (Fh.charsOf (r.take i)))))
      ⟨same_new hD, upd_same⟩ (fun i H' _ hp => SqL.of (hp.1 _ _ hy)) (fun i v H' hv hp => ?_) (fun H' hp => ?_)
    · obtain ⟨s1, hl⟩ := hp
      rw [List.getElem?_map] at hv
      cases hz : ys[i]? with
      | none => rw [hz] at hv; cases hv
      | some z =>
        rw [hz] at hv
        obtain rfl : V.ref z = v := Option.some.inj hv
        obtain ⟨pc, hpc, _, hZ⟩ := paired_get hP hz
        have hi : i < r.length := (List.getElem?_eq_some_iff.mp hpc).1
        have htk : r.take (i + 1) = r.take i ++ [pc] := by
          rw [List.take_add_one, hpc]
          rfl
        have hch : Fh.charsOf (r.take (i + 1)) = Fh.charsOf (r.take i) ++ Fh.charsOf [pc] := by
          rw [htk, chars_app]
        have hcl2 : (Fh.charsOf (r.take i)).length ≤ i := by
          have := chars_len (r.take i)
          rw [List.length_take] at this
          omega
        refine ⟨z, _, rfl, .inl (.inl (s1 _ _ hZ)), rfl, _, _, rfl, _, _, rfl, rfl, rfl, _, rfl, rfl, _, rfl, ?_⟩
        cases pc with
        | char c =>
          refine iteT ⟨_, rfl, _, hl, ?_, same_newR s1 hD, ?_⟩
          · rw [nvs_len]
            omega
          · rw [upd_same, hch]
            unfold nvs
            rw [List.map_append]
            rfl
        | open_ n =>
          refine iteF ?_
          rw [hch, show Fh.charsOf [Fh.Piece.open_ n] = [] from rfl, List.append_nil]
          exact ⟨s1, hl⟩
        | close n =>
          refine iteF ?_
          rw [hch, show Fh.charsOf [Fh.Piece.close n] = [] from rfl, List.append_nil]
          exact ⟨s1, hl⟩
        | alone n =>
          refine iteF ?_
          rw [hch, show Fh.charsOf [Fh.Piece.alone n] = [] from rfl, List.append_nil]
          exact ⟨s1, hl⟩
    · obtain ⟨s1, hl⟩ := hp
      rw [List.length_map, hP.length, List.take_length] at hl
      exact k H' D s1 hD hl
end
end Sg

/-! SgCut -/
set_option Elab.async false
set_option linter.all false
set_option maxRecDepth 100000
set_option maxHeartbeats 2000000
namespace Sg
open Fh
/-! ### what items match, by places -/
/-- t steps from j to k -/
def ch (A : Nat → Prop) (s : Nat) : Nat → Nat → Nat → Prop
  | 0, j, k => j = k
  | t + 1, j, k => A j ∧ ch A s t (j + s) k
def itR (A : Nat → Prop) (s lo hi j k : Nat) : Prop := ∃ t, lo ≤ t ∧ t ≤ hi ∧ ch A s t j k
def rch (m : Item → Nat → Nat → Prop) : List Item → Nat → Nat → Prop
  | [], j, k => j = k
  | i :: l, j, k => ∃ x, m i j x ∧ rch m l x k
/-- the atom matches what begins at place j -/
def mAt (R : Rules) (a : Atom) (b : List Nat) (j : Nat) : Prop := (a.rest R (b.drop j)).isSome = true
def itM (R : Rules) (b : List Nat) (i : Item) (j k : Nat) : Prop := itR (mAt R i.atom b) i.atom.size i.least i.most j k
theorem ch_end (A : Nat → Prop) (s : Nat) : ∀ (t j k : Nat), ch A s t j k → k = j + t * s
  | 0, j, k, h => by
    have : j = k := h
    omega
  | t + 1, j, k, h => by
    have := ch_end A s t (j + s) k h.2
    rw [Nat.succ_mul]
    omega
theorem ch_snoc (A : Nat → Prop) (s : Nat) : ∀ (t j k : Nat), ch A s (t + 1) j k ↔ ∃ x, ch A s t j x ∧ A x ∧ k = x + s
  | 0, j, k => ⟨fun h => ⟨j, rfl, h.1, by have : j + s = k := h.2; omega⟩, fun ⟨x, h1, h2, h3⟩ => by
    have : j = x := h1
    subst this
    exact ⟨h2, h3.symm⟩⟩
  | t + 1, j, k => by
    constructor
    · rintro ⟨h1, h2⟩
      obtain ⟨x, a1, a2, a3⟩ := (ch_snoc A s t (j + s) k).mp h2
      exact ⟨x, ⟨h1, a1⟩, a2, a3⟩
    · rintro ⟨x, ⟨h1, a1⟩, a2, a3⟩
      exact ⟨h1, (ch_snoc A s t (j + s) k).mpr ⟨x, a1, a2, a3⟩⟩
theorem rch_snoc (m : Item → Nat → Nat → Prop) (i : Item) : ∀ (l : List Item) (j k : Nat), rch m (l ++ [i]) j k ↔ ∃ x, rch m l j x ∧ m i x k
  | [], j, k => ⟨fun ⟨x, h1, h2⟩ => ⟨j, rfl, by have : x = k := h2; subst this; exact h1⟩, fun ⟨x, h1, h2⟩ => ⟨k, by have : j = x := h1; subst this; exact h2, rfl⟩⟩
  | y :: l, j, k => by
    constructor
    · rintro ⟨x, h1, h2⟩
      obtain ⟨z, a1, a2⟩ := (rch_snoc m i l x k).mp h2
      exact ⟨z, ⟨x, h1, a1⟩, a2⟩
    · rintro ⟨z, ⟨x, h1, a1⟩, a2⟩
      exact ⟨x, h1, (rch_snoc m i l x k).mpr ⟨z, a1, a2⟩⟩
/-! ### rows that are left -/
def GoodL (b : List Nat) (s : Left) : Prop := ∀ x ∈ s, x.2 = b.drop x.1 ∧ x.1 ≤ b.length
def Has (s : Left) (k : Nat) : Prop := ∃ x ∈ s, x.1 = k
theorem rest_is (R : Rules) (a : Atom) (t : List Nat) : (a.rest R t = some (t.drop a.size) ∧ a.size ≤ t.length) ∨ a.rest R t = none := by
  cases a with
  | any =>
    cases t with
    | nil => exact .inr rfl
    | cons c r => exact .inl ⟨rfl, by show 1 ≤ _; simp⟩
  | cls k =>
    cases t with
    | nil => exact .inr rfl
    | cons c r =>
      show ((if R.inClass k c = true then some r else none) = some r ∧ 1 ≤ (c :: r).length) ∨ (if R.inClass k c = true then some r else none) = none
      by_cases q : R.inClass k c = true
      · rw [if_pos q]
        exact .inl ⟨rfl, by simp⟩
      · rw [if_neg q]
        exact .inr rfl
  | lit l =>
    have e : Atom.rest R (.lit l) t = if l.isPrefixOf t = true then some (t.drop l.length) else none := by
      cases t <;> rfl
    rw [e]
    by_cases q : l.isPrefixOf t = true
    · rw [if_pos q]
      exact .inl ⟨rfl, (List.isPrefixOf_iff_prefix.mp q).length_le⟩
    · rw [if_neg q]
      exact .inr rfl
theorem mAt_len {R : Rules} {a : Atom} {b : List Nat} {j : Nat} (hj : j ≤ b.length) (h : mAt R a b j) : j + a.size ≤ b.length ∧ a.rest R (b.drop j) = some (b.drop (j + a.size)) := by
  unfold mAt at h
  rcases rest_is R a (b.drop j) with ⟨e, h2⟩ | e
  · rw [e, List.drop_drop]
    rw [List.length_drop] at h2
    exact ⟨by omega, rfl⟩
  · rw [e] at h
    cases h
theorem once_good {R : Rules} {a : Atom} {b : List Nat} {s : Left} (h : GoodL b s) : GoodL b (onceEach R a s) ∧ ∀ k, Has (onceEach R a s) k ↔ ∃ j, Has s j ∧ mAt R a b j ∧ k = j + a.size := by
  constructor
  · intro x hx
    obtain ⟨y, hy, e⟩ := List.mem_filterMap.mp hx
    obtain ⟨g1, g2⟩ := h y hy
    rw [g1] at e
    cases q : a.rest R (b.drop y.1) with
    | none => rw [q] at e; cases e
    | some t =>
      have hm : mAt R a b y.1 := by unfold mAt; rw [q]; rfl
      obtain ⟨l1, l2⟩ := mAt_len g2 hm
      rw [q] at l2
      rw [q] at e
      have ex : (y.1 + a.size, t) = x := Option.some.inj e
      rw [← ex]
      exact ⟨Option.some.inj l2, l1⟩
  · intro k
    constructor
    · rintro ⟨x, hx, rfl⟩
      obtain ⟨y, hy, e⟩ := List.mem_filterMap.mp hx
      obtain ⟨g1, g2⟩ := h y hy
      rw [g1] at e
      cases q : a.rest R (b.drop y.1) with
      | none => rw [q] at e; cases e
      | some t =>
        rw [q] at e
        have ex : (y.1 + a.size, t) = x := Option.some.inj e
        exact ⟨y.1, ⟨y, hy, rfl⟩, by unfold mAt; rw [q]; rfl, by rw [← ex]⟩
    · rintro ⟨j, ⟨y, hy, rfl⟩, hm, rfl⟩
      obtain ⟨g1, g2⟩ := h y hy
      obtain ⟨l1, l2⟩ := mAt_len g2 hm
      exact ⟨_, List.mem_filterMap.mpr ⟨y, hy, by rw [g1, l2]; rfl⟩, rfl⟩
theorem join_has : ∀ (l m : Left), (∀ x ∈ joinedLeft l m, x ∈ l ∨ x ∈ m) ∧ ∀ k, Has (joinedLeft l m) k ↔ Has l k ∨ Has m k
  | [], m => by
    have e : joinedLeft [] m = m := by unfold joinedLeft; rfl
    rw [e]
    exact ⟨fun x hx => .inr hx, fun k => ⟨.inr, fun h => h.elim (fun ⟨_, h, _⟩ => absurd h (by simp)) id⟩⟩
  | x :: l, [] => by
    have e : joinedLeft (x :: l) [] = x :: l := by unfold joinedLeft; rfl
    rw [e]
    exact ⟨fun x hx => .inl hx, fun k => ⟨.inl, fun h => h.elim id (fun ⟨_, h, _⟩ => absurd h (by simp))⟩⟩
  | x :: l, y :: m => by
    have e : joinedLeft (x :: l) (y :: m) = if x.1 < y.1 then x :: joinedLeft l (y :: m) else if x.1 = y.1 then x :: joinedLeft l m else y :: joinedLeft (x :: l) m := by
      rw [joinedLeft]
    rw [e]
    have cons_has : ∀ (z : Nat × List Nat) (s : Left) (k : Nat), Has (z :: s) k ↔ z.1 = k ∨ Has s k := fun z s k =>
      ⟨fun ⟨w, hw, e⟩ => by
        rcases List.mem_cons.mp hw with rfl | h
        · exact .inl e
        · exact .inr ⟨w, h, e⟩, fun h => by
        rcases h with e | ⟨w, h, e⟩
        · exact ⟨z, List.mem_cons_self .., e⟩
        · exact ⟨w, List.mem_cons_of_mem _ h, e⟩⟩
    by_cases q : x.1 < y.1
    · rw [if_pos q]
      obtain ⟨i1, i2⟩ := join_has l (y :: m)
      refine ⟨fun z hz => ?_, fun k => ?_⟩
      · rcases List.mem_cons.mp hz with rfl | h
        · exact .inl (List.mem_cons_self ..)
        · exact (i1 z h).imp (List.mem_cons_of_mem _) id
      · rw [cons_has, i2, cons_has x, or_assoc]
    · rw [if_neg q]
      by_cases q2 : x.1 = y.1
      · rw [if_pos q2]
        obtain ⟨i1, i2⟩ := join_has l m
        refine ⟨fun z hz => ?_, fun k => ?_⟩
        · rcases List.mem_cons.mp hz with rfl | h
          · exact .inl (List.mem_cons_self ..)
          · exact (i1 z h).imp (List.mem_cons_of_mem _) (List.mem_cons_of_mem _)
        · rw [cons_has, i2, cons_has x, cons_has y, q2]
          constructor
          · rintro (h | h | h)
            · exact .inl (.inl h)
            · exact .inl (.inr h)
            · exact .inr (.inr h)
          · rintro ((h | h) | (h | h))
            · exact .inl h
            · exact .inr (.inl h)
            · exact .inl h
            · exact .inr (.inr h)
      · rw [if_neg q2]
        obtain ⟨i1, i2⟩ := join_has (x :: l) m
        refine ⟨fun z hz => ?_, fun k => ?_⟩
        · rcases List.mem_cons.mp hz with rfl | h
          · exact .inr (List.mem_cons_self ..)
          · exact (i1 z h).imp id (List.mem_cons_of_mem _)
        · rw [cons_has, i2, cons_has y]
          constructor
          · rintro (h | h | h)
            · exact .inr (.inl h)
            · exact .inl h
            · exact .inr (.inr h)
          · rintro (h | h | h)
            · exact .inr (.inl h)
            · exact .inl h
            · exact .inr (.inr h)
termination_by l m => l.length + m.length
theorem has_nil {k : Nat} : ¬ Has [] k := fun ⟨_, h, _⟩ => absurd h (by simp)
theorem times_has (R : Rules) (a : Atom) (b : List Nat) : ∀ (lo ex : Nat) (s : Left), GoodL b s → GoodL b (timesEach R a lo ex s) ∧ ∀ k, Has (timesEach R a lo ex s) k ↔ ∃ j, Has s j ∧ itR (mAt R a b) a.size lo (lo + ex) j k
  | 0, 0, s, h => by
    have e0 : timesEach R a 0 0 s = s := by
      unfold timesEach
      rfl
    rw [e0]
    refine ⟨h, fun k => ⟨fun q => ⟨k, q, 0, Nat.le_refl _, Nat.le_refl _, rfl⟩, ?_⟩⟩
    rintro ⟨j, q, t, _, ht, c⟩
    obtain rfl : t = 0 := by omega
    have : j = k := c
    subst this
    exact q
  | 0, n + 1, s, h => by
    unfold timesEach
    by_cases q : s.isEmpty = true
    · rw [if_pos q]
      have := List.isEmpty_iff.mp q
      subst this
      refine ⟨fun x hx => absurd hx (by simp), fun k => ⟨fun z => absurd z has_nil, fun ⟨j, z, _⟩ => absurd z has_nil⟩⟩
    · rw [if_neg q]
      obtain ⟨o1, o2⟩ := once_good (R := R) (a := a) h
      obtain ⟨i1, i2⟩ := times_has R a b 0 n (onceEach R a s) o1
      obtain ⟨j1, j2⟩ := join_has s (timesEach R a 0 n (onceEach R a s))
      refine ⟨fun x hx => (j1 x hx).elim (h x) (i1 x), fun k => ?_⟩
      rw [j2, i2]
      constructor
      · rintro (z | ⟨j, z, t, _, ht, c⟩)
        · exact ⟨k, z, 0, Nat.le_refl _, Nat.zero_le _, rfl⟩
        · obtain ⟨y, hy, hm, rfl⟩ := (o2 j).mp z
          exact ⟨y, hy, t + 1, Nat.zero_le _, by omega, hm, c⟩
      · rintro ⟨j, z, t, _, ht, c⟩
        cases t with
        | zero =>
          have : j = k := c
          subst this
          exact .inl z
        | succ t => exact .inr ⟨j + a.size, (o2 _).mpr ⟨j, z, c.1, rfl⟩, t, Nat.zero_le _, by omega, c.2⟩
  | lo + 1, ex, s, h => by
    unfold timesEach
    by_cases q : s.isEmpty = true
    · rw [if_pos q]
      have := List.isEmpty_iff.mp q
      subst this
      refine ⟨fun x hx => absurd hx (by simp), fun k => ⟨fun z => absurd z has_nil, fun ⟨j, z, _⟩ => absurd z has_nil⟩⟩
    · rw [if_neg q]
      obtain ⟨o1, o2⟩ := once_good (R := R) (a := a) h
      obtain ⟨i1, i2⟩ := times_has R a b lo ex (onceEach R a s) o1
      refine ⟨i1, fun k => ?_⟩
      rw [i2]
      constructor
      · rintro ⟨j, z, t, h1, h2, c⟩
        obtain ⟨y, hy, hm, rfl⟩ := (o2 j).mp z
        exact ⟨y, hy, t + 1, by omega, by omega, hm, c⟩
      · rintro ⟨j, z, t, h1, h2, c⟩
        cases t with
        | zero => exact absurd h1 (by omega)
        | succ t => exact ⟨j + a.size, (o2 _).mpr ⟨j, z, c.1, rfl⟩, t, by omega, by omega, c.2⟩
theorem rests_has (R : Rules) (b : List Nat) : ∀ (l : List Item) (s : Left), GoodL b s → GoodL b (rests R l s) ∧ ∀ k, Has (rests R l s) k ↔ ∃ j, Has s j ∧ rch (itM R b) l j k
  | [], s, h => ⟨h, fun k => ⟨fun q => ⟨k, q, rfl⟩, fun ⟨j, q, e⟩ => by
    have : j = k := e
    subst this
    exact q⟩⟩
  | i :: l, s, h => by
    show GoodL b (rests R l (if i.most < i.least then [] else timesEach R i.atom i.least (i.most - i.least) s)) ∧ ∀ k, Has (rests R l (if i.most < i.least then [] else timesEach R i.atom i.least (i.most - i.least) s)) k ↔ _
    by_cases q : i.most < i.least
    · rw [if_pos q]
      obtain ⟨i1, i2⟩ := rests_has R b l [] (fun x hx => absurd hx (by simp))
      refine ⟨i1, fun k => ?_⟩
      rw [i2]
      constructor
      · rintro ⟨j, z, _⟩
        exact absurd z has_nil
      · rintro ⟨j, z, x, ⟨t, h1, h2, _⟩, _⟩
        omega
    · rw [if_neg q]
      obtain ⟨t1, t2⟩ := times_has R i.atom b i.least (i.most - i.least) s h
      obtain ⟨i1, i2⟩ := rests_has R b l _ t1
      refine ⟨i1, fun k => ?_⟩
      rw [i2]
      rw [show i.least + (i.most - i.least) = i.most by omega] at t2
      constructor
      · rintro ⟨j, z, c⟩
        obtain ⟨y, hy, hm⟩ := (t2 j).mp z
        exact ⟨y, hy, j, hm, c⟩
      · rintro ⟨j, z, x, hm, c⟩
        exact ⟨x, (t2 x).mpr ⟨j, z, hm⟩, c⟩
/-- what is left of all of b -/
theorem any_rest {R : Rules} {b : List Nat} {l : List Item} {e : Bool} : ((rests R l [(0, b)]).any fun z => !e || z.2.isEmpty) = true ↔ ∃ k, (e = true → k = b.length) ∧ rch (itM R b) l 0 k := by
  obtain ⟨g1, g2⟩ := rests_has R b l [(0, b)] (fun x hx => by
    have : x = (0, b) := by simpa using hx
    rw [this]
    exact ⟨rfl, Nat.zero_le _⟩)
  have h0 : ∀ j, Has [(0, b)] j ↔ j = 0 := fun j => ⟨fun ⟨x, hx, e⟩ => by
    have : x = (0, b) := by simpa using hx
    rw [this] at e
    exact e.symm, fun e => ⟨(0, b), by simp, e.symm⟩⟩
  rw [List.any_eq_true]
  constructor
  · rintro ⟨x, hx, hq⟩
    obtain ⟨j, hj, c⟩ := (g2 x.1).mp ⟨x, hx, rfl⟩
    rw [h0] at hj
    subst hj
    refine ⟨x.1, fun he => ?_, c⟩
    rw [he] at hq
    obtain ⟨d1, d2⟩ := g1 x hx
    have : x.2 = [] := by simpa using hq
    rw [this] at d1
    have := congrArg List.length d1
    rw [List.length_drop] at this
    simp at this
    omega
  · rintro ⟨k, hk, c⟩
    obtain ⟨x, hx, e1⟩ := (g2 k).mpr ⟨0, (h0 0).mpr rfl, c⟩
    refine ⟨x, hx, ?_⟩
    cases e with
    | false => rfl
    | true =>
      obtain ⟨d1, d2⟩ := g1 x hx
      rw [d1, e1, hk rfl, List.drop_length]
      rfl
end Sg

/-! SgCut2 -/
set_option Elab.async false
set_option linter.all false
set_option maxRecDepth 100000
set_option maxHeartbeats 2000000
namespace Sg
open Fh
/-! ### a rule says something at a place -/
theorem mAt_drop {R : Rules} {a : Atom} {cs : List Nat} {p j : Nat} : mAt R a (cs.drop p) j ↔ mAt R a cs (p + j) := by
  unfold mAt
  rw [List.drop_drop]
theorem ch_shift {A B : Nat → Prop} {s p : Nat} (h : ∀ j, B j ↔ A (p + j)) : ∀ (t j k : Nat), ch B s t j k ↔ ch A s t (p + j) (p + k)
  | 0, j, k => ⟨fun e => by
    have : j = k := e
    rw [this]
    rfl, fun e => by
    have : p + j = p + k := e
    show j = k
    omega⟩
  | t + 1, j, k => by
    show B j ∧ ch B s t (j + s) k ↔ A (p + j) ∧ ch A s t (p + j + s) (p + k)
    rw [h, ch_shift h t, Nat.add_assoc]
theorem ch_le {R : Rules} {a : Atom} {b : List Nat} : ∀ (t j k : Nat), j ≤ b.length → ch (mAt R a b) a.size t j k → k ≤ b.length
  | 0, j, k, h, e => by
    have : j = k := e
    omega
  | t + 1, j, k, h, e => ch_le t _ k (mAt_len h e.1).1 e.2
theorem itM_le {R : Rules} {i : Item} {b : List Nat} {j k : Nat} (h : itM R b i j k) : j ≤ k ∧ (j ≤ b.length → k ≤ b.length) := by
  obtain ⟨t, _, _, c⟩ := h
  exact ⟨by have := ch_end _ _ _ _ _ c; omega, fun hj => ch_le t j k hj c⟩
theorem rch_le {R : Rules} {b : List Nat} : ∀ {l : List Item} {j k : Nat}, rch (itM R b) l j k → j ≤ k ∧ (j ≤ b.length → k ≤ b.length)
  | [], j, k, e => by
    have : j = k := e
    subst this
    exact ⟨Nat.le_refl _, id⟩
  | i :: l, j, k, ⟨x, h1, h2⟩ => by
    have a1 := itM_le h1
    have a2 := rch_le h2
    exact ⟨Nat.le_trans a1.1 a2.1, fun z => a2.2 (a1.2 z)⟩
theorem rch_shift {R : Rules} {cs : List Nat} {p : Nat} : ∀ {l : List Item} {j k : Nat}, rch (itM R (cs.drop p)) l j k → rch (itM R cs) l (p + j) (p + k)
  | [], j, k, e => by
    have : j = k := e
    rw [this]
    rfl
  | i :: l, j, k, ⟨x, ⟨t, h1, h2, h3⟩, h4⟩ => ⟨p + x, ⟨t, h1, h2, (ch_shift (fun j => mAt_drop) t j x).mp h3⟩, rch_shift h4⟩
theorem rch_unshift {R : Rules} {cs : List Nat} {p : Nat} : ∀ {l : List Item} {j k : Nat}, rch (itM R cs) l (p + j) k → ∃ k', k = p + k' ∧ rch (itM R (cs.drop p)) l j k'
  | [], j, k, e => ⟨j, by
    have : p + j = k := e
    exact this.symm, rfl⟩
  | i :: l, j, k, ⟨x, ⟨t, h1, h2, h3⟩, h4⟩ => by
    have hx : x = p + (x - p) := by
      have := ch_end _ _ _ _ _ h3
      omega
    rw [hx] at h3 h4
    obtain ⟨k', e, h5⟩ := rch_unshift h4
    exact ⟨k', e, x - p, ⟨t, h1, h2, (ch_shift (fun j => mAt_drop) t j _).mpr h3⟩, h5⟩
theorem suffix_take {cs l : List Nat} {m : Nat} (hm : m ≤ cs.length) : l <:+ cs.take m ↔ l.length ≤ m ∧ l <+: cs.drop (m - l.length) := by
  constructor
  · rintro ⟨x, e⟩
    have hl : x.length + l.length = m := by
      rw [← List.length_append, e, List.length_take]
      omega
    refine ⟨by omega, cs.drop m, ?_⟩
    have e2 : cs = x ++ (l ++ cs.drop m) := by
      rw [← List.append_assoc, e, List.take_append_drop]
    have hx : m - l.length = x.length := by omega
    rw [hx]
    conv => rhs; rw [e2]
    rw [List.drop_left]
  · rintro ⟨hl, r, e⟩
    refine ⟨cs.take (m - l.length), ?_⟩
    have : cs.take m = cs.take (m - l.length) ++ (cs.drop (m - l.length)).take l.length := by
      rw [← List.take_add, show m - l.length + l.length = m by omega]
    rw [this, ← e, List.take_left]
def Atom.turn : Atom → Atom
  | .lit l => .lit l.reverse
  | a => a
theorem turned_atom (i : Item) : i.turned.atom = Atom.turn i.atom ∧ i.turned.least = i.least ∧ i.turned.most = i.most ∧ i.turned.atom.size = i.atom.size := by
  obtain ⟨a, lo, hi⟩ := i
  cases a with
  | any => exact ⟨rfl, rfl, rfl, rfl⟩
  | cls k => exact ⟨rfl, rfl, rfl, rfl⟩
  | lit l => exact ⟨rfl, rfl, rfl, List.length_reverse⟩
theorem mAt_lit {R : Rules} {l b : List Nat} {j : Nat} : mAt R (.lit l) b j ↔ l <+: b.drop j := by
  unfold mAt
  have e : Atom.rest R (.lit l) (b.drop j) = if l.isPrefixOf (b.drop j) = true then some ((b.drop j).drop l.length) else none := by
    cases b.drop j <;> rfl
  rw [e, ← List.isPrefixOf_iff_prefix]
  by_cases q : l.isPrefixOf (b.drop j) = true
  · rw [if_pos q]
    exact ⟨fun _ => q, fun _ => rfl⟩
  · rw [if_neg q]
    exact ⟨fun z => (by cases z), fun z => absurd z q⟩
theorem mAt_any {R : Rules} {b : List Nat} {j : Nat} : mAt R .any b j ↔ j < b.length := by
  unfold mAt
  by_cases q : j < b.length
  · rw [List.drop_eq_getElem_cons q]
    exact ⟨fun _ => q, fun _ => rfl⟩
  · rw [List.drop_eq_nil_of_le (by omega)]
    exact ⟨fun z => (by cases z), fun z => absurd z q⟩
theorem mAt_cls {R : Rules} {b : List Nat} {j c : Nat} : mAt R (.cls c) b j ↔ ∃ x, b[j]? = some x ∧ R.inClass c x = true := by
  unfold mAt
  by_cases q : j < b.length
  · rw [List.drop_eq_getElem_cons q, List.getElem?_eq_getElem q]
    show (if R.inClass c b[j] = true then some (b.drop (j + 1)) else none).isSome = true ↔ _
    by_cases z : R.inClass c b[j] = true
    · rw [if_pos z]
      exact ⟨fun _ => ⟨_, rfl, z⟩, fun _ => rfl⟩
    · rw [if_neg z]
      exact ⟨fun y => (by cases y), fun ⟨x, h1, h2⟩ => absurd (by rw [Option.some.inj h1]; exact h2) z⟩
  · rw [List.drop_eq_nil_of_le (by omega), List.getElem?_eq_none (by omega)]
    exact ⟨fun z => (by cases z), fun ⟨x, h1, _⟩ => (by cases h1)⟩
theorem mAt_turn {R : Rules} {a : Atom} {cs : List Nat} {p j : Nat} (hp : p ≤ cs.length) (hj : j ≤ p) : mAt R (Atom.turn a) (cs.take p).reverse j ↔ j + a.size ≤ p ∧ mAt R a cs (p - j - a.size) := by
  have hl : (cs.take p).reverse.length = p := by
    rw [List.length_reverse, List.length_take]
    omega
  cases a with
  | any =>
    show mAt R .any _ j ↔ j + 1 ≤ p ∧ mAt R .any cs (p - j - 1)
    rw [mAt_any, mAt_any, hl]
    omega
  | cls k =>
    show mAt R (.cls k) _ j ↔ j + 1 ≤ p ∧ mAt R (.cls k) cs (p - j - 1)
    rw [mAt_cls, mAt_cls]
    have e : ∀ x, (cs.take p).reverse[j]? = some x ↔ j + 1 ≤ p ∧ cs[p - j - 1]? = some x := fun x => by
      by_cases q : j < p
      · rw [List.getElem?_reverse (by rw [List.length_take]; omega), List.length_take, List.getElem?_take_of_lt (by omega), show min p cs.length - 1 - j = p - j - 1 by omega]
        exact ⟨fun z => ⟨q, z⟩, fun z => z.2⟩
      · rw [List.getElem?_eq_none (by omega)]
        exact ⟨fun z => (by cases z), fun z => absurd z.1 q⟩
    constructor
    · rintro ⟨x, h1, h2⟩
      exact ⟨((e x).mp h1).1, x, ((e x).mp h1).2, h2⟩
    · rintro ⟨h0, x, h1, h2⟩
      exact ⟨x, (e x).mpr ⟨h0, h1⟩, h2⟩
  | lit l =>
    show mAt R (.lit l.reverse) _ j ↔ j + l.length ≤ p ∧ mAt R (.lit l) cs (p - j - l.length)
    rw [mAt_lit, mAt_lit]
    have e : (cs.take p).reverse.drop j = (cs.take (p - j)).reverse := by
      rw [List.drop_reverse, List.length_take, List.take_take]
      congr 2
      omega
    rw [e, List.reverse_prefix, suffix_take (by omega)]
    constructor
    · rintro ⟨h1, h2⟩
      exact ⟨by omega, h2⟩
    · rintro ⟨h1, h2⟩
      exact ⟨by omega, h2⟩
theorem ch_turn {A B : Nat → Prop} {s p : Nat} (h : ∀ j, j ≤ p → (B j ↔ j + s ≤ p ∧ A (p - j - s))) : ∀ (t j k : Nat), j ≤ p → (ch B s t j k ↔ k ≤ p ∧ ch A s t (p - k) (p - j))
  | 0, j, k, hj => by
    show j = k ↔ k ≤ p ∧ p - k = p - j
    omega
  | t + 1, j, k, hj => by
    show (B j ∧ ch B s t (j + s) k) ↔ k ≤ p ∧ ch A s (t + 1) (p - k) (p - j)
    rw [ch_snoc A]
    constructor
    · rintro ⟨h1, h2⟩
      obtain ⟨a1, a2⟩ := (h j hj).mp h1
      obtain ⟨b1, b2⟩ := (ch_turn h t (j + s) k a1).mp h2
      exact ⟨b1, p - (j + s), b2, by rw [show p - (j + s) = p - j - s by omega]; exact a2, by omega⟩
    · rintro ⟨h1, x, h2, h3, h4⟩
      have hx : x = p - j - s := by omega
      have hs : j + s ≤ p := by omega
      refine ⟨(h j hj).mpr ⟨hs, hx ▸ h3⟩, (ch_turn h t (j + s) k hs).mpr ⟨h1, ?_⟩⟩
      rw [show p - (j + s) = x by omega]
      exact h2
theorem rch_turn {R : Rules} {cs : List Nat} {p : Nat} (hp : p ≤ cs.length) : ∀ (l : List Item) (j k : Nat), j ≤ p → (rch (itM R (cs.take p).reverse) (l.reverse.map Item.turned) j k ↔ k ≤ p ∧ rch (itM R cs) l (p - k) (p - j))
  | [], j, k, hj => by
    show j = k ↔ k ≤ p ∧ p - k = p - j
    omega
  | i :: l, j, k, hj => by
    rw [List.reverse_cons, List.map_append]
    show rch _ (l.reverse.map Item.turned ++ [i.turned]) j k ↔ _
    rw [rch_snoc]
    obtain ⟨t1, t2, t3, t4⟩ := turned_atom i
    have step : ∀ x, x ≤ p → (itM R (cs.take p).reverse i.turned x k ↔ k ≤ p ∧ itM R cs i (p - k) (p - x)) := fun x hx => by
      unfold itM itR
      rw [t1, t2, t3]
      rw [t1] at t4
      rw [t4]
      have hh := fun t => ch_turn (A := mAt R i.atom cs) (B := mAt R (Atom.turn i.atom) (cs.take p).reverse) (s := i.atom.size) (p := p) (fun j hj => mAt_turn hp hj) t x k hx
      constructor
      · rintro ⟨t, a1, a2, a3⟩
        obtain ⟨b1, b2⟩ := (hh t).mp a3
        exact ⟨b1, t, a1, a2, b2⟩
      · rintro ⟨b1, t, a1, a2, b2⟩
        exact ⟨t, a1, a2, (hh t).mpr ⟨b1, b2⟩⟩
    constructor
    · rintro ⟨x, h1, h2⟩
      obtain ⟨a1, a2⟩ := (rch_turn hp l j x hj).mp h1
      obtain ⟨b1, b2⟩ := (step x a1).mp h2
      exact ⟨b1, p - x, b2, a2⟩
    · rintro ⟨hk, y, h1, h2⟩
      have hy : y ≤ p := by
        have := (rch_le h2).1
        omega
      have ey : p - (p - y) = y := by omega
      refine ⟨p - y, (rch_turn hp l j (p - y) hj).mpr ⟨by omega, by rw [ey]; exact h2⟩, (step (p - y) (by omega)).mpr ⟨hk, by rw [ey]; exact h1⟩⟩
/-- the rule says something at p -/
def Says (R : Rules) (cs : List Nat) (r : Rule) (p : Nat) : Prop :=
  (∃ j, j ≤ cs.length ∧ (r.start = true → j = 0) ∧ rch (itM R cs) r.before j p) ∧ ∃ k, k ≤ cs.length ∧ (r.halt_ = true → k = cs.length) ∧ rch (itM R cs) r.behind p k
theorem fits_is {R : Rules} {cs : List Nat} {r : Rule} {p : Nat} (hp : p ≤ cs.length) : fitsHere R r (cs.take p).reverse (cs.drop p) = true ↔ Says R cs r p := by
  unfold fitsHere Says
  rw [Bool.and_eq_true, any_rest, any_rest]
  have hl : (cs.take p).reverse.length = p := by
    rw [List.length_reverse, List.length_take]
    omega
  rw [hl]
  constructor
  · rintro ⟨⟨k, h1, h2⟩, k', h3, h4⟩
    obtain ⟨a1, a2⟩ := (rch_turn hp r.before 0 k (Nat.zero_le _)).mp h2
    have b1 := rch_shift h4
    have b2 := (rch_le b1).2 (by omega)
    rw [List.length_drop] at h3
    refine ⟨⟨p - k, by omega, fun z => by rw [h1 z]; omega, a2⟩, p + k', b2, fun z => by rw [h3 z]; omega, b1⟩
  · rintro ⟨⟨j, h0, h1, h2⟩, k, h3, h4, h5⟩
    have hj := (rch_le h2).1
    refine ⟨⟨p - j, fun z => by rw [h1 z]; omega, (rch_turn hp r.before 0 (p - j) (Nat.zero_le _)).mpr ⟨by omega, ?_⟩⟩, ?_⟩
    · rw [show p - (p - j) = j by omega]
      exact h2
    · obtain ⟨k', e, h6⟩ := rch_unshift (j := 0) h5
      refine ⟨k', fun z => ?_, h6⟩
      rw [List.length_drop]
      have := h4 z
      omega
end Sg

/-! SgCut3 -/
set_option Elab.async false
set_option linter.all false
set_option maxRecDepth 100000
set_option maxHeartbeats 2000000
namespace Sg
open Fh
/-! ### how many segments -/
def cutP (R : Rules) (cs : List Nat) (p : Nat) : Bool := cutsHere R (cs.take p).reverse (cs.drop p)
def nbl (c : Nat) : Bool := c != 32
def one (b : Bool) : Nat := if b = true then 1 else 0
def cF (R : Rules) (cs : List Nat) : Bool → Nat → List Nat → Nat
  | cur, _, [] => one cur
  | cur, p, c :: b => if cutP R cs p = true then one cur + cF R cs (nbl c) (p + 1) b else cF R cs (cur || nbl c) (p + 1) b
def cN (R : Rules) (cs : List Nat) : Bool → Nat → List Nat → Nat
  | cur, _, [] => one cur
  | cur, p, c :: b => cF R cs (cur || nbl c) (p + 1) b
def cX (R : Rules) (cs : List Nat) : Bool → Bool → Nat → List Nat → Nat
  | true => cF R cs
  | false => cN R cs
def nb (l : List Row) : Nat := (l.map fun x => one (!isBare x)).sum
theorem parts_nb : ∀ (l : List Row) (g : Row), (partsFrom g l).1.length = nb l
  | [], g => rfl
  | x :: l, g => by
    show (if isBare x = true then partsFrom (g ++ x) l else _).1.length = one (!isBare x) + nb l
    by_cases q : isBare x = true
    · rw [if_pos q, q, parts_nb l]
      show nb l = 0 + nb l
      omega
    · rw [if_neg q]
      have q' : isBare x = false := by
        cases z : isBare x with
        | true => exact absurd z q
        | false => rfl
      rw [q']
      show (partsFrom (trimmed x).2.2 l).1.length + 1 = 1 + nb l
      rw [parts_nb l]
      omega
theorem bare_app (x y : Row) : (!isBare (x ++ y)) = ((!isBare x) || (!isBare y)) := by
  unfold isBare
  have : charsOf (x ++ y) = charsOf x ++ charsOf y := List.filterMap_append ..
  rw [this, List.all_append, Bool.not_and]
theorem drop_succ {cs b : List Nat} {c p : Nat} (h : cs.drop p = c :: b) : cs.drop (p + 1) = b ∧ (cs.take (p + 1)).reverse = c :: (cs.take p).reverse ∧ p < cs.length ∧ cs[p]? = some c := by
  have hp : p < cs.length := by
    have := congrArg List.length h
    rw [List.length_drop] at this
    simp at this
    omega
  rw [List.drop_eq_getElem_cons hp] at h
  injection h with h1 h2
  refine ⟨h2, ?_, hp, by rw [List.getElem?_eq_getElem hp, h1]⟩
  rw [List.take_succ_eq_append_getElem hp, List.reverse_append, h1]
  rfl
theorem take_app {a0 : Nat} {r0 row : Row} : (r0 ++ row).take (a0 + r0.length - a0) = r0 ∧ (r0 ++ row).drop (a0 + r0.length - a0) = row := by
  rw [show a0 + r0.length - a0 = r0.length by omega]
  exact ⟨List.take_left, List.drop_left⟩
theorem row_nb (R : Rules) (cs : List Nat) : ∀ (row : Row) (p a0 : Nat) (r0 : Row) (here : Bool), charsOf row = cs.drop p → p ≤ cs.length →
    nb (stretches a0 (cutsFrom R row (cs.take p).reverse (cs.drop p) (a0 + r0.length) here) (r0 ++ row)) = cX R cs here (!isBare r0) p (cs.drop p)
  | [], p, a0, r0, here, h, hp => by
    rw [← h]
    show nb [r0 ++ []] = _
    rw [List.append_nil]
    show one (!isBare r0) + 0 = _
    cases here <;> rfl
  | .char c :: row, p, a0, r0, here, h, hp => by
    have h' : cs.drop p = c :: charsOf row := h.symm
    obtain ⟨d1, d2, d3, _⟩ := drop_succ h'
    have ih := fun a0' r0' => row_nb R cs row (p + 1) a0' r0' true d1.symm d3
    have e : cutsFrom R (.char c :: row) (cs.take p).reverse (cs.drop p) (a0 + r0.length) here = (if here = true ∧ cutP R cs p = true then [a0 + r0.length] else []) ++ cutsFrom R row (cs.take (p + 1)).reverse (cs.drop (p + 1)) (a0 + r0.length + 1) true := by
      rw [d2, ← List.drop_drop]
      rfl
    rw [e]
    have cc : (!isBare [Piece.char c]) = nbl c := by
      show (!((c == BLANK) && true)) = _
      rw [Bool.and_true]
      rfl
    by_cases q : here = true ∧ cutP R cs p = true
    · rw [if_pos q]
      show nb ((r0 ++ .char c :: row).take (a0 + r0.length - a0) :: stretches (a0 + r0.length) _ ((r0 ++ .char c :: row).drop (a0 + r0.length - a0))) = _
      rw [take_app.1, take_app.2]
      show one (!isBare r0) + nb (stretches (a0 + r0.length) (cutsFrom R row (cs.take (p + 1)).reverse (cs.drop (p + 1)) ((a0 + r0.length) + [Piece.char c].length) true) ([Piece.char c] ++ row)) = _
      rw [ih (a0 + r0.length) [Piece.char c], q.1, h', d1, cc]
      show _ = if cutP R cs p = true then _ else _
      rw [if_pos q.2]
      rfl
    · rw [if_neg q]
      show nb (stretches a0 (cutsFrom R row (cs.take (p + 1)).reverse (cs.drop (p + 1)) (a0 + r0.length + 1) true) (r0 ++ ([Piece.char c] ++ row))) = _
      have hl : a0 + r0.length + 1 = a0 + (r0 ++ [Piece.char c]).length := by
        rw [List.length_append]
        rfl
      rw [hl, ← List.append_assoc, ih a0 (r0 ++ [Piece.char c]), bare_app, cc, h', d1]
      cases here with
      | false => rfl
      | true =>
        show _ = if cutP R cs p = true then _ else _
        rw [if_neg (fun z => q ⟨rfl, z⟩)]
        rfl
  | .open_ n :: row, p, a0, r0, here, h, hp => by
    have ih := fun a0' r0' => row_nb R cs row p a0' r0' false h hp
    have e : cutsFrom R (.open_ n :: row) (cs.take p).reverse (cs.drop p) (a0 + r0.length) here = (if here = true ∧ cutP R cs p = true then [a0 + r0.length] else []) ++ cutsFrom R row (cs.take p).reverse (cs.drop p) (a0 + r0.length + 1) false := rfl
    rw [e]
    have cc : (!isBare [Piece.open_ n]) = false := rfl
    by_cases q : here = true ∧ cutP R cs p = true
    · rw [if_pos q]
      show nb ((r0 ++ .open_ n :: row).take (a0 + r0.length - a0) :: stretches (a0 + r0.length) _ ((r0 ++ .open_ n :: row).drop (a0 + r0.length - a0))) = _
      rw [take_app.1, take_app.2]
      show one (!isBare r0) + nb (stretches (a0 + r0.length) (cutsFrom R row (cs.take p).reverse (cs.drop p) ((a0 + r0.length) + [Piece.open_ n].length) false) ([Piece.open_ n] ++ row)) = _
      rw [ih (a0 + r0.length) [Piece.open_ n], q.1, cc]
      show one (!isBare r0) + cN R cs false p (cs.drop p) = cF R cs (!isBare r0) p (cs.drop p)
      have hq := q.2
      cases hb : cs.drop p with
      | nil =>
        unfold cutP cutsHere at hq
        rw [hb] at hq
        simp at hq
      | cons c b =>
        show one (!isBare r0) + cF R cs (false || nbl c) (p + 1) b = if cutP R cs p = true then one (!isBare r0) + cF R cs (nbl c) (p + 1) b else _
        rw [if_pos hq, Bool.false_or]
    · rw [if_neg q]
      show nb (stretches a0 (cutsFrom R row (cs.take p).reverse (cs.drop p) (a0 + r0.length + 1) false) (r0 ++ ([Piece.open_ n] ++ row))) = _
      have hl : a0 + r0.length + 1 = a0 + (r0 ++ [Piece.open_ n]).length := by
        rw [List.length_append]
        rfl
      rw [hl, ← List.append_assoc, ih a0 (r0 ++ [Piece.open_ n]), bare_app, cc, Bool.or_false]
      cases here with
      | false => rfl
      | true =>
        have hq : ¬ cutP R cs p = true := fun z => q ⟨rfl, z⟩
        show cN R cs (!isBare r0) p (cs.drop p) = cF R cs (!isBare r0) p (cs.drop p)
        cases hb : cs.drop p with
        | nil => rfl
        | cons c b =>
          show _ = if cutP R cs p = true then _ else _
          rw [if_neg hq]
          rfl
  | .close n :: row, p, a0, r0, here, h, hp => by
    have ih := row_nb R cs row p a0 (r0 ++ [Piece.close n]) here h hp
    have cc : (!isBare [Piece.close n]) = false := rfl
    rw [bare_app, cc, Bool.or_false, List.append_assoc] at ih
    rw [← ih, show a0 + (r0 ++ [Piece.close n]).length = a0 + r0.length + 1 by rw [List.length_append]; rfl]
    rfl
  | .alone n :: row, p, a0, r0, here, h, hp => by
    have ih := row_nb R cs row p a0 (r0 ++ [Piece.alone n]) here h hp
    have cc : (!isBare [Piece.alone n]) = false := rfl
    rw [bare_app, cc, Bool.or_false, List.append_assoc] at ih
    rw [← ih, show a0 + (r0 ++ [Piece.alone n]).length = a0 + r0.length + 1 by rw [List.length_append]; rfl]
    rfl
/-- the program's count over the places -/
def cntL (cs : List Nat) : Nat → List Nat → Nat
  | _, [] => 0
  | first, b :: l => one (((cs.take b).drop first).any nbl) + cntL cs b l
def cutPl (R : Rules) (cs : List Nat) : List Nat := (List.range' 1 (cs.length - 1)).filter (cutP R cs)
theorem cnt_go (R : Rules) (cs : List Nat) : ∀ (m p first : Nat), p + m = cs.length → first ≤ p → cntL cs first ((List.range' p m).filter (cutP R cs) ++ [cs.length]) = cF R cs (((cs.take p).drop first).any nbl) p (cs.drop p)
  | 0, p, first, h, hf => by
    have hp : p = cs.length := by omega
    subst hp
    rw [List.drop_eq_nil_of_le (Nat.le_refl _)]
    show one _ + 0 = one _
    rfl
  | m + 1, p, first, h, hf => by
    have hp : p < cs.length := by omega
    have hd := List.drop_eq_getElem_cons hp
    have ht : cs.take (p + 1) = cs.take p ++ [cs[p]] := List.take_succ_eq_append_getElem hp
    have hl : (cs.take p).length = p := by
      rw [List.length_take]
      omega
    rw [List.range'_succ, List.filter_cons, hd]
    by_cases q : cutP R cs p = true
    · rw [if_pos q]
      show one (((cs.take p).drop first).any nbl) + cntL cs p ((List.range' (p + 1) m).filter (cutP R cs) ++ [cs.length]) = if cutP R cs p = true then _ else _
      rw [if_pos q, cnt_go R cs m (p + 1) p (by omega) (by omega), ht, List.drop_left' hl]
      show _ + cF R cs (nbl cs[p] || false) (p + 1) _ = _
      rw [Bool.or_false]
    · rw [if_neg q]
      show _ = if cutP R cs p = true then _ else _
      rw [if_neg q, cnt_go R cs m (p + 1) first (by omega) (by omega), ht, List.drop_append_of_le_length (by omega), List.any_append]
      show cF R cs (_ || (nbl cs[p] || false)) _ _ = _
      rw [Bool.or_false]
theorem segs_count (R : Rules) (r : Row) : (segsOf R r).length = cntL (charsOf r) 0 (cutPl R (charsOf r) ++ [(charsOf r).length]) := by
  have e := row_nb R (charsOf r) r 0 0 [] false rfl (Nat.zero_le _)
  have e1 : (segsOf R r).length = nb (stretches 0 (cutsOf R r) r) := by
    unfold segsOf parted
    rw [List.length_map, parts_nb]
  rw [e1]
  have e2 : cutsOf R r = cutsFrom R r ((charsOf r).take 0).reverse ((charsOf r).drop 0) (0 + ([] : Row).length) false := rfl
  rw [e2]
  refine e.trans ?_
  unfold cutPl
  generalize charsOf r = cs
  cases cs with
  | nil => rfl
  | cons c b =>
    rw [show (c :: b).length - 1 = b.length by simp]
    rw [cnt_go R (c :: b) b.length 1 0 (by simp; omega) (by omega)]
    show cF R (c :: b) (false || nbl c) 1 b = cF R (c :: b) (nbl c || false) 1 b
    rw [Bool.or_false, Bool.false_or]
end Sg

/-! SgPart -/
set_option Elab.async false
set_option linter.all false
namespace Sg
open Fh
/-! ### where the cuts stand in the row -/
/-- how many closing and lone tags stand in front -/
def tailLen : Row → Nat
  | .close _ :: r => tailLen r + 1
  | .alone _ :: r => tailLen r + 1
  | _ => 0
def gF (R : Rules) (cs : List Nat) : Row → Nat → Nat → List Nat
  | [], _, _ => []
  | .char _ :: r, p, k => (if cutP R cs (p + 1) = true then [k + 1 + tailLen r] else []) ++ gF R cs r (p + 1) (k + 1)
  | _ :: r, p, k => gF R cs r p (k + 1)
theorem cutP_end {R : Rules} {cs : List Nat} {p : Nat} (h : cs.length ≤ p) : cutP R cs p = false := by
  unfold cutP cutsHere
  rw [List.drop_eq_nil_of_le h]
  simp
theorem cutsFrom_is (R : Rules) (cs : List Nat) : ∀ (row : Row) (p k : Nat) (here : Bool), charsOf row = cs.drop p → p ≤ cs.length →
    cutsFrom R row (cs.take p).reverse (cs.drop p) k here = (if here = true ∧ cutP R cs p = true then [k + tailLen row] else []) ++ gF R cs row p k
  | [], p, k, here, h, hp => by
    have : cs.length ≤ p := by
      have e : (cs.drop p).length = 0 := by rw [← h]; rfl
      rw [List.length_drop] at e
      omega
    rw [if_neg (fun z => by rw [cutP_end this] at z; exact absurd z.2 (by simp))]
    rfl
  | .char c :: r, p, k, here, h, hp => by
    have hd : cs.drop p = c :: charsOf r := h.symm
    obtain ⟨h1, h2, h3, h4⟩ := drop_succ hd
    have ih := cutsFrom_is R cs r (p + 1) (k + 1) true h1.symm h3
    show (if here = true ∧ cutsHere R (cs.take p).reverse (cs.drop p) = true then [k] else []) ++ cutsFrom R r (c :: (cs.take p).reverse) ((cs.drop p).drop 1) (k + 1) true = _
    rw [← h2, List.drop_drop, ih]
    show _ = (if here = true ∧ cutP R cs p = true then [k + 0] else []) ++ ((if cutP R cs (p + 1) = true then [k + 1 + tailLen r] else []) ++ gF R cs r (p + 1) (k + 1))
    simp only [true_and]
    rfl
  | .open_ n :: r, p, k, here, h, hp => by
    have ih := cutsFrom_is R cs r p (k + 1) false h hp
    show (if here = true ∧ cutsHere R (cs.take p).reverse (cs.drop p) = true then [k] else []) ++ cutsFrom R r (cs.take p).reverse (cs.drop p) (k + 1) false = _
    rw [ih]
    show _ = (if here = true ∧ cutP R cs p = true then [k + 0] else []) ++ gF R cs r p (k + 1)
    simp only [Bool.false_eq_true, false_and, if_false, List.nil_append]
    rfl
  | .close n :: r, p, k, here, h, hp => by
    have ih := cutsFrom_is R cs r p (k + 1) here h hp
    show cutsFrom R r (cs.take p).reverse (cs.drop p) (k + 1) here = (if here = true ∧ cutP R cs p = true then [k + (tailLen r + 1)] else []) ++ gF R cs r p (k + 1)
    rw [ih, show k + 1 + tailLen r = k + (tailLen r + 1) by omega]
  | .alone n :: r, p, k, here, h, hp => by
    have ih := cutsFrom_is R cs r p (k + 1) here h hp
    show cutsFrom R r (cs.take p).reverse (cs.drop p) (k + 1) here = (if here = true ∧ cutP R cs p = true then [k + (tailLen r + 1)] else []) ++ gF R cs r p (k + 1)
    rw [ih, show k + 1 + tailLen r = k + (tailLen r + 1) by omega]
theorem cutsOf_is (R : Rules) (r : Row) : cutsOf R r = gF R (charsOf r) r 0 0 := by
  have := cutsFrom_is R (charsOf r) r 0 0 false rfl (Nat.zero_le _)
  unfold cutsOf
  simpa using this
theorem tail_le : ∀ r : Row, tailLen r ≤ r.length
  | [] => Nat.le_refl _
  | .char _ :: r => Nat.zero_le _
  | .open_ _ :: r => Nat.zero_le _
  | .close _ :: r => Nat.succ_le_succ (tail_le r)
  | .alone _ :: r => Nat.succ_le_succ (tail_le r)
theorem gF_in (R : Rules) (cs : List Nat) : ∀ (row : Row) (p k x : Nat), x ∈ gF R cs row p k → k + tailLen row < x ∧ x ≤ k + row.length
  | [], p, k, x, h => absurd h (by simp [gF])
  | .char c :: r, p, k, x, h => by
    unfold gF at h
    rw [List.length_cons]
    have ht := tail_le r
    rcases List.mem_append.mp h with h | h
    · split at h
      · obtain rfl : x = k + 1 + tailLen r := by simpa using h
        show k + 0 < _ ∧ _
        omega
      · exact absurd h (by simp)
    · have := gF_in R cs r (p + 1) (k + 1) x h
      show k + 0 < _ ∧ _
      omega
  | .open_ _ :: r, p, k, x, h => by
    have := gF_in R cs r p (k + 1) x h
    rw [List.length_cons]
    show k + 0 < _ ∧ _
    omega
  | .close _ :: r, p, k, x, h => by
    have := gF_in R cs r p (k + 1) x h
    rw [List.length_cons]
    show k + (tailLen r + 1) < _ ∧ _
    omega
  | .alone _ :: r, p, k, x, h => by
    have := gF_in R cs r p (k + 1) x h
    rw [List.length_cons]
    show k + (tailLen r + 1) < _ ∧ _
    omega
/-- rising from a, up to n -/
def Ris (n : Nat) : Nat → List Nat → Prop
  | a, [] => a ≤ n
  | a, c :: l => a < c ∧ Ris n c l
theorem Ris.le {n : Nat} : ∀ {a : Nat} {l : List Nat}, Ris n a l → a ≤ n
  | a, [], h => h
  | a, c :: l, h => by
    have := Ris.le h.2
    have := h.1
    omega
theorem Ris.weak {n a b : Nat} : ∀ {l : List Nat}, Ris n b l → a ≤ b → Ris n a l
  | [], h, q => Nat.le_trans q h
  | c :: l, h, q => ⟨Nat.lt_of_le_of_lt q h.1, h.2⟩
theorem gF_ris (R : Rules) (cs : List Nat) : ∀ (row : Row) (p k : Nat), Ris (k + row.length) (k + tailLen row) (gF R cs row p k)
  | [], p, k => Nat.le_refl _
  | .char c :: r, p, k => by
    have ih := gF_ris R cs r (p + 1) (k + 1)
    rw [List.length_cons, show k + (r.length + 1) = k + 1 + r.length by omega]
    unfold gF
    split
    · exact ⟨by show k + 0 < _; omega, ih⟩
    · exact ih.weak (by show k + 0 ≤ _; omega)
  | .open_ _ :: r, p, k => by
    have ih := gF_ris R cs r p (k + 1)
    rw [List.length_cons, show k + (r.length + 1) = k + 1 + r.length by omega]
    exact ih.weak (by show k + 0 ≤ _; omega)
  | .close _ :: r, p, k => by
    have ih := gF_ris R cs r p (k + 1)
    rw [List.length_cons, show k + (r.length + 1) = k + 1 + r.length by omega]
    exact ih.weak (by show k + (tailLen r + 1) ≤ _; omega)
  | .alone _ :: r, p, k => by
    have ih := gF_ris R cs r p (k + 1)
    rw [List.length_cons, show k + (r.length + 1) = k + 1 + r.length by omega]
    exact ih.weak (by show k + (tailLen r + 1) ≤ _; omega)
theorem cuts_ris (R : Rules) (r : Row) : Ris r.length 0 (cutsOf R r) := by
  rw [cutsOf_is]
  have := gF_ris R (charsOf r) r 0 0
  rw [Nat.zero_add, Nat.zero_add] at this
  exact this.weak (Nat.zero_le _)
/-! ### by the characters' places in the row -/
def isC : Piece → Bool
  | .char _ => true
  | _ => false
/-- where the characters stand -/
def atFrom : Nat → Row → List Nat
  | _, [] => []
  | k, .char _ :: r => k :: atFrom (k + 1) r
  | k, _ :: r => atFrom (k + 1) r
def atOf (r : Row) : List Nat := atFrom 0 r
theorem atFrom_len : ∀ (r : Row) (k : Nat), (atFrom k r).length = (charsOf r).length
  | [], k => rfl
  | .char c :: r, k => by
    show (atFrom (k + 1) r).length + 1 = (c :: charsOf r).length
    rw [atFrom_len r, List.length_cons]
  | .open_ _ :: r, k => atFrom_len r (k + 1)
  | .close _ :: r, k => atFrom_len r (k + 1)
  | .alone _ :: r, k => atFrom_len r (k + 1)
theorem atFrom_app : ∀ (r s : Row) (k : Nat), atFrom k (r ++ s) = atFrom k r ++ atFrom (k + r.length) s
  | [], s, k => rfl
  | .char c :: r, s, k => by
    show k :: atFrom (k + 1) (r ++ s) = k :: (atFrom (k + 1) r ++ atFrom (k + (r.length + 1)) s)
    rw [atFrom_app r s, show k + 1 + r.length = k + (r.length + 1) by omega]
  | .open_ _ :: r, s, k => by
    show atFrom (k + 1) (r ++ s) = atFrom (k + 1) r ++ atFrom (k + (r.length + 1)) s
    rw [atFrom_app r s, show k + 1 + r.length = k + (r.length + 1) by omega]
  | .close _ :: r, s, k => by
    show atFrom (k + 1) (r ++ s) = atFrom (k + 1) r ++ atFrom (k + (r.length + 1)) s
    rw [atFrom_app r s, show k + 1 + r.length = k + (r.length + 1) by omega]
  | .alone _ :: r, s, k => by
    show atFrom (k + 1) (r ++ s) = atFrom (k + 1) r ++ atFrom (k + (r.length + 1)) s
    rw [atFrom_app r s, show k + 1 + r.length = k + (r.length + 1) by omega]
theorem at_snoc (r : Row) (p : Piece) : atOf (r ++ [p]) = atOf r ++ if isC p = true then [r.length] else [] := by
  unfold atOf
  rw [atFrom_app, Nat.zero_add]
  cases p <;> rfl
/-- where in the row the cut stands that is behind the piece at p -/
def cutB (r : Row) (p : Nat) : Nat := p + 1 + tailLen (r.drop (p + 1))
theorem gF_at (R : Rules) (cs : List Nat) (r : Row) : ∀ (m p k : Nat) (row : Row), r.drop k = row → charsOf row = cs.drop p → p ≤ cs.length → m = cs.length - p →
    gF R cs row p k = (((List.range' (p + 1) m).filter (cutP R cs)).zipIdx.map fun x => x.1).map fun c => cutB r ((atFrom k row).getD (c - 1 - p) 0)
  | m, p, k, [], hr, hc, hp, hm => by
    have e : (cs.drop p).length = 0 := by rw [← hc]; rfl
    rw [List.length_drop] at e
    have : m = 0 := by omega
    subst this
    rfl
  | m, p, k, .char c :: row, hr, hc, hp, hm => by
    have hd : cs.drop p = c :: charsOf row := hc.symm
    obtain ⟨h1, h2, h3, h4⟩ := drop_succ hd
    obtain ⟨m', rfl⟩ : ∃ m', m = m' + 1 := ⟨m - 1, by omega⟩
    have hr' : r.drop (k + 1) = row := by
      rw [← List.drop_drop, hr]
      rfl
    have ih := gF_at R cs r m' (p + 1) (k + 1) row hr' h1.symm h3 (by omega)
    have tailEq : ∀ c, c ∈ (List.range' (p + 1 + 1) m').filter (cutP R cs) → cutB r ((atFrom (k + 1) row).getD (c - 1 - (p + 1)) 0) = cutB r ((k :: atFrom (k + 1) row).getD (c - 1 - p) 0) := fun c hc => by
      have := List.mem_range'_1.mp (List.mem_filter.mp hc).1
      rw [show c - 1 - p = (c - 1 - (p + 1)) + 1 by omega]
      rfl
    have z1 : ∀ l : List Nat, l.zipIdx.map (fun x => x.1) = l := fun l => by simp
    rw [z1] at ih ⊢
    rw [List.range'_succ, List.filter_cons]
    show (if cutP R cs (p + 1) = true then [k + 1 + tailLen row] else []) ++ gF R cs row (p + 1) (k + 1) = _
    rw [ih, List.map_congr_left tailEq]
    by_cases q : cutP R cs (p + 1) = true
    · rw [if_pos q, if_pos q, List.map_cons]
      show _ = cutB r ((k :: atFrom (k + 1) row).getD (p + 1 - 1 - p) 0) :: _
      rw [show p + 1 - 1 - p = 0 by omega]
      show _ = cutB r k :: _
      unfold cutB
      rw [hr']
      rfl
    · rw [if_neg q, if_neg q]
      rfl
  | m, p, k, .open_ n :: row, hr, hc, hp, hm => gF_at R cs r m p (k + 1) row (by rw [← List.drop_drop, hr]; rfl) hc hp hm
  | m, p, k, .close n :: row, hr, hc, hp, hm => gF_at R cs r m p (k + 1) row (by rw [← List.drop_drop, hr]; rfl) hc hp hm
  | m, p, k, .alone n :: row, hr, hc, hp, hm => gF_at R cs r m p (k + 1) row (by rw [← List.drop_drop, hr]; rfl) hc hp hm
/-- the cuts in the row, by the cuts among the characters -/
theorem cutsOf_at (R : Rules) (r : Row) : cutsOf R r = (cutPl R (charsOf r)).map fun c => cutB r ((atOf r).getD (c - 1) 0) := by
  rw [cutsOf_is, gF_at R (charsOf r) r (charsOf r).length 0 0 r rfl rfl (Nat.zero_le _) rfl]
  have z1 : ∀ l : List Nat, l.zipIdx.map (fun x => x.1) = l := fun l => by simp
  rw [z1]
  unfold cutPl atOf
  have e : (List.range' (0 + 1) (charsOf r).length).filter (cutP R (charsOf r)) = (List.range' 1 ((charsOf r).length - 1)).filter (cutP R (charsOf r)) := by
    cases hn : (charsOf r).length with
    | zero => rfl
    | succ n =>
      rw [Nat.add_sub_cancel, List.range'_concat, List.filter_append]
      rw [show [0 + 1 + 1 * n].filter (cutP R (charsOf r)) = [] by rw [List.filter_cons, if_neg (by rw [cutP_end (by omega)]; simp)]; rfl, List.append_nil]
  rw [e]
  refine List.map_congr_left fun c hc => ?_
  rw [Nat.sub_zero]
/-! ### stretches, as places -/
def pairsFrom (n : Nat) : Nat → List Nat → List (Nat × Nat)
  | a, [] => [(a, n)]
  | a, c :: l => (a, c) :: pairsFrom n c l
def cutRow (r : Row) (i j : Nat) : Row := (r.take j).drop i
theorem stretches_is (r : Row) : ∀ (l : List Nat) (a : Nat), Ris r.length a l → Fh.stretches a l (r.drop a) = (pairsFrom r.length a l).map fun x => cutRow r x.1 x.2
  | [], a, h => by
    show [r.drop a] = [cutRow r a r.length]
    unfold cutRow
    rw [List.take_length]
  | c :: l, a, h => by
    have ih := stretches_is r l c h.2
    show (r.drop a).take (c - a) :: Fh.stretches c l ((r.drop a).drop (c - a)) = cutRow r a c :: _
    have hac := h.1
    rw [List.drop_drop, show a + (c - a) = c by omega, ih]
    unfold cutRow
    rw [List.drop_take]
theorem pairs_in {n : Nat} : ∀ {l : List Nat} {a : Nat}, Ris n a l → ∀ x ∈ pairsFrom n a l, x.1 ≤ x.2 ∧ x.2 ≤ n
  | [], a, h, x, hx => by
    obtain rfl : x = (a, n) := by simpa [pairsFrom] using hx
    exact ⟨h, Nat.le_refl _⟩
  | c :: l, a, h, x, hx => by
    rcases List.mem_cons.mp hx with rfl | hx
    · exact ⟨Nat.le_of_lt h.1, h.2.le⟩
    · exact pairs_in h.2 x hx
/-! ### segments, as places -/
def trimP (r : Row) (x : Nat × Nat) : Nat × Nat := (x.1 + (leading (cutRow r x.1 x.2)).length, x.2 - (leading ((cutRow r x.1 x.2).drop (leading (cutRow r x.1 x.2)).length).reverse).length)
def segP (r : Row) (x : Nat × Nat) : Option (Nat × Nat) := if isBare (cutRow r x.1 x.2) = true then none else some (trimP r x)
/-- the segments' places in the row -/
def segPl (R : Rules) (r : Row) : List (Nat × Nat) := (pairsFrom r.length 0 (cutsOf R r)).filterMap (segP r)
def posFrom : Nat → List (Row × Row) → List (Nat × Nat)
  | _, [] => []
  | e, x :: l => (e + x.1.length, e + x.1.length + x.2.length) :: posFrom (e + x.1.length + x.2.length) l
theorem leading_le (r : Row) : (leading r).length ≤ r.length := by
  unfold leading
  exact (List.takeWhile_prefix _).length_le
theorem trim_len (x : Row) : (trimmed x).1.length = (leading x).length ∧ (trimmed x).2.2.length = (leading (x.drop (leading x).length).reverse).length ∧ (trimmed x).1.length + (trimmed x).2.1.length + (trimmed x).2.2.length = x.length := by
  refine ⟨rfl, rfl, ?_⟩
  show (leading x).length + ((x.drop (leading x).length).take (x.length - (leading x).length - (leading (x.drop (leading x).length).reverse).length)).length + (leading (x.drop (leading x).length).reverse).length = x.length
  have h1 := leading_le x
  have h2 := leading_le (x.drop (leading x).length).reverse
  rw [List.length_reverse, List.length_drop] at h2
  rw [List.length_take, List.length_drop]
  omega
theorem cutRow_len {r : Row} {i j : Nat} (h : j ≤ r.length) : (cutRow r i j).length = j - i := by
  unfold cutRow
  rw [List.length_drop, List.length_take]
  omega
theorem pos_parts (r : Row) : ∀ (l : List Nat) (a e : Nat) (g : Row), Ris r.length a l → e + g.length = a →
    posFrom e (partsFrom g ((pairsFrom r.length a l).map fun x => cutRow r x.1 x.2)).1 = (pairsFrom r.length a l).filterMap (segP r) := by
  have one : ∀ (a c e : Nat) (g : Row) (rest : List Row) (ps : List (Nat × Nat)), a ≤ c → c ≤ r.length → e + g.length = a →
      (∀ (e' : Nat) (g' : Row), e' + g'.length = c → posFrom e' (partsFrom g' rest).1 = ps.filterMap (segP r)) →
      posFrom e (partsFrom g (cutRow r a c :: rest)).1 = ((a, c) :: ps).filterMap (segP r) := by
    intro a c e g rest ps hac hcr he ih
    have hl := cutRow_len (i := a) hcr
    unfold partsFrom
    rw [List.filterMap_cons]
    by_cases q : isBare (cutRow r a c) = true
    · rw [if_pos q]
      have hs : segP r (a, c) = none := by unfold segP; rw [if_pos q]
      rw [hs]
      exact ih e (g ++ cutRow r a c) (by rw [List.length_append]; omega)
    · rw [if_neg q]
      have hs : segP r (a, c) = some (trimP r (a, c)) := by unfold segP; rw [if_neg q]
      rw [hs]
      obtain ⟨t1, t2, t3⟩ := trim_len (cutRow r a c)
      dsimp only
      show (e + (g ++ (trimmed (cutRow r a c)).1).length, e + (g ++ (trimmed (cutRow r a c)).1).length + (trimmed (cutRow r a c)).2.1.length) :: posFrom (e + (g ++ (trimmed (cutRow r a c)).1).length + (trimmed (cutRow r a c)).2.1.length) (partsFrom (trimmed (cutRow r a c)).2.2 rest).1 = _
      rw [List.length_append]
      rw [ih _ _ (by omega)]
      congr 1
      unfold trimP
      dsimp only
      rw [← t2, ← t1]
      congr 1 <;> omega
  intro l
  induction l with
  | nil =>
    intro a e g h he
    exact one a r.length e g [] [] h (Nat.le_refl _) he (fun e' g' h' => rfl)
  | cons c l ih =>
    intro a e g h he
    exact one a c e g _ _ (Nat.le_of_lt h.1) h.2.le he (fun e' g' h' => ih c e' g' h.2 h')
theorem pos_len : ∀ (l : List (Row × Row)) (e : Nat), (posFrom e l).length = l.length
  | [], e => rfl
  | x :: l, e => by
    show (posFrom _ l).length + 1 = l.length + 1
    rw [pos_len l]
theorem segPl_is (R : Rules) (r : Row) : posFrom 0 (parted R r).1 = segPl R r := by
  unfold parted segPl
  have h := stretches_is r (cutsOf R r) 0 (cuts_ris R r)
  rw [List.drop_zero] at h
  rw [h]
  exact pos_parts r (cutsOf R r) 0 0 [] (cuts_ris R r) rfl
theorem segPl_len (R : Rules) (r : Row) : (segPl R r).length = (segsOf R r).length := by
  rw [← segPl_is, pos_len]
  unfold segsOf
  rw [List.length_map]
/-! ### nothing is lost -/
def allOf (x : Parted) : Row := (x.1.flatMap fun y => y.1 ++ y.2) ++ x.2
theorem leading_app (x : Row) : leading x ++ x.drop (leading x).length = x := by
  have h : (leading x) = x.take (leading x).length := by
    unfold leading
    exact (List.prefix_iff_eq_take.mp (List.takeWhile_prefix _))
  have h2 := List.take_append_drop (leading x).length x
  rw [← h] at h2
  exact h2
theorem leading_cons (p : Piece) (x : Row) : leading (p :: x) = if p = .char BLANK then p :: leading x else [] := by
  unfold leading
  rw [List.takeWhile_cons]
  by_cases q : p = .char BLANK
  · rw [if_pos q, if_pos (by simpa using q)]
  · rw [if_neg q, if_neg (by simpa using q)]
theorem leading_blank : ∀ (x : Row), ∀ p ∈ leading x, p = .char BLANK
  | [], p, hp => absurd hp (by simp [leading])
  | y :: x, p, hp => by
    rw [leading_cons] at hp
    split at hp
    · rename_i q
      rcases List.mem_cons.mp hp with h | h
      · rw [h]
        exact q
      · exact leading_blank x p h
    · exact absurd hp (by simp)
theorem trimmed_app (x : Row) : (trimmed x).1 ++ ((trimmed x).2.1 ++ (trimmed x).2.2) = x := by
  show leading x ++ ((x.drop (leading x).length).take (x.length - (leading x).length - (leading (x.drop (leading x).length).reverse).length) ++ leading (x.drop (leading x).length).reverse) = x
  have key : ∀ y : Row, y.take (y.length - (leading y.reverse).length) ++ leading y.reverse = y := fun y => by
    have h1 : leading y.reverse = (y.drop (y.length - (leading y.reverse).length)).reverse := by
      have h : (leading y.reverse) = y.reverse.take (leading y.reverse).length := by
        unfold leading
        exact (List.prefix_iff_eq_take.mp (List.takeWhile_prefix _))
      rw [List.take_reverse] at h
      exact h
    have h2 : leading y.reverse = y.drop (y.length - (leading y.reverse).length) := by
      have h3 : ∀ p ∈ leading y.reverse, p = .char BLANK := leading_blank _
      have h4 : (leading y.reverse).reverse = leading y.reverse := by
        have e : leading y.reverse = List.replicate (leading y.reverse).length (.char BLANK) := List.eq_replicate_iff.mpr ⟨rfl, h3⟩
        rw [e]
        simp
      rw [← h4]
      conv => lhs; rw [h1, List.reverse_reverse]
      rw [h4]
    conv => lhs; arg 2; rw [h2]
    exact List.take_append_drop ..
  have e := key (x.drop (leading x).length)
  rw [List.length_drop] at e
  rw [e]
  exact leading_app x
theorem parts_all : ∀ (l : List Row) (g : Row), allOf (partsFrom g l) = g ++ l.flatten
  | [], g => by
    show [] ++ g = g ++ []
    simp
  | x :: l, g => by
    unfold partsFrom
    by_cases q : isBare x = true
    · rw [if_pos q, parts_all l]
      simp
    · rw [if_neg q]
      show ((((g ++ (trimmed x).1) ++ (trimmed x).2.1) ++ ((partsFrom (trimmed x).2.2 l).1.flatMap fun y => y.1 ++ y.2)) ++ (partsFrom (trimmed x).2.2 l).2) = _
      have ih := parts_all l (trimmed x).2.2
      unfold allOf at ih
      rw [List.append_assoc, ih, List.flatten_cons]
      conv => rhs; rw [← trimmed_app x]
      simp only [List.append_assoc]
theorem stretch_flat (r : Row) : ∀ (l : List Nat) (a : Nat), (Fh.stretches a l r).flatten = r
  | [], a => by
    show [r].flatten = r
    simp
  | c :: l, a => by
    show (r.take (c - a) :: Fh.stretches c l (r.drop (c - a))).flatten = r
    rw [List.flatten_cons, stretch_flat (r.drop (c - a)) l c, List.take_append_drop]
theorem parted_all (R : Rules) (r : Row) : allOf (parted R r) = r := by
  unfold parted
  rw [parts_all, stretch_flat]
  rfl
/-- the k-th segment and where it stands -/
theorem part_at {r : Row} : ∀ (l : List (Row × Row)) (t : Row) (e : Nat) (pre : Row), pre ++ ((l.flatMap fun y => y.1 ++ y.2) ++ t) = r → pre.length = e →
    ∀ (k : Nat) (z : Row × Row), l[k]? = some z → ∃ x, (posFrom e l)[k]? = some x ∧ z.2 = cutRow r x.1 x.2 ∧ x.1 ≤ x.2 ∧ x.2 ≤ r.length ∧
      x.1 = e + (((l.take k).flatMap fun y => y.1 ++ y.2).length + z.1.length) ∧ x.2 = x.1 + z.2.length
  | [], t, e, pre, h, he, k, z, hz => by simp at hz
  | y :: l, t, e, pre, h, he, 0, z, hz => by
    obtain rfl : y = z := by simpa using hz
    have hh : r = ((pre ++ y.1) ++ y.2) ++ ((l.flatMap fun y => y.1 ++ y.2) ++ t) := by
      rw [← h, List.flatMap_cons]
      simp only [List.append_assoc]
    refine ⟨_, rfl, ?_, by dsimp only; omega, ?_, by simp, rfl⟩
    · dsimp only
      unfold cutRow
      have e1 : (pre ++ y.1 ++ y.2).length = e + y.1.length + y.2.length := by simp only [List.length_append]; omega
      have e2 : (pre ++ y.1).length = e + y.1.length := by simp only [List.length_append]; omega
      conv => rhs; rw [hh, ← e1, List.take_left, ← e2, List.drop_left]
    · dsimp only
      rw [hh]
      simp only [List.length_append]
      omega
  | y :: l, t, e, pre, h, he, k + 1, z, hz => by
    have hz' : l[k]? = some z := by simpa using hz
    obtain ⟨x, h1, h2, h3, h4, h5, h6⟩ := part_at (r := r) l t (e + y.1.length + y.2.length) (pre ++ y.1 ++ y.2) (by rw [← h, List.flatMap_cons]; simp only [List.append_assoc]) (by simp only [List.length_append]; omega) k z hz'
    refine ⟨x, h1, h2, h3, h4, ?_, h6⟩
    rw [h5, List.take_succ_cons, List.flatMap_cons]
    simp only [List.length_append]
    omega
theorem seg_at {R : Rules} {r : Row} {k : Nat} {z : Row × Row} (h : (parted R r).1[k]? = some z) : ∃ x, (segPl R r)[k]? = some x ∧ z.2 = cutRow r x.1 x.2 ∧ x.1 ≤ x.2 ∧ x.2 ≤ r.length ∧ Fh.endsOf (parted R r) k = x := by
  obtain ⟨x, h1, h2, h3, h4, h5, h6⟩ := part_at (parted R r).1 (parted R r).2 0 [] (parted_all R r) rfl k z h
  rw [segPl_is] at h1
  refine ⟨x, h1, h2, h3, h4, ?_⟩
  unfold Fh.endsOf
  rw [h]
  show (_, _) = x
  rw [Nat.zero_add] at h5
  refine Prod.ext ?_ ?_
  · rw [h5]
    rfl
  · rw [h6, h5]
    rfl
theorem seg_none {R : Rules} {r : Row} {k : Nat} (h : (parted R r).1[k]? = none) : (segPl R r).length ≤ k := by
  rw [← segPl_is, pos_len]
  exact List.getElem?_eq_none_iff.mp h
end Sg

/-! SgPart2 -/
set_option Elab.async false
set_option linter.all false
namespace Sg
open Fh
/-! ### more of the cuts' places -/
theorem tail_lt : ∀ (r : Row), charsOf r ≠ [] → tailLen r < r.length
  | [], h => absurd rfl h
  | .char _ :: r, h => Nat.succ_pos _
  | .open_ _ :: r, h => Nat.succ_pos _
  | .close _ :: r, h => Nat.succ_lt_succ (tail_lt r h)
  | .alone _ :: r, h => Nat.succ_lt_succ (tail_lt r h)
theorem tail_at : ∀ (r : Row) (m : Nat) (p : Piece), r[m]? = some p → m ≤ tailLen r → ((tagK p = 45 ∨ tagK p = 46) ↔ m < tailLen r)
  | [], m, p, h, _ => by simp at h
  | .char c :: r, m, p, h, hm => by
    obtain rfl : m = 0 := Nat.le_zero.mp hm
    obtain rfl : Piece.char c = p := by simpa using h
    exact ⟨fun z => by rcases z with z | z <;> exact absurd z (by show ¬ (0 : Nat) = _; omega), fun z => absurd z (Nat.lt_irrefl _)⟩
  | .open_ c :: r, m, p, h, hm => by
    obtain rfl : m = 0 := Nat.le_zero.mp hm
    obtain rfl : Piece.open_ c = p := by simpa using h
    exact ⟨fun z => by rcases z with z | z <;> exact absurd z (by show ¬ (43 : Nat) = _; omega), fun z => absurd z (Nat.lt_irrefl _)⟩
  | .close c :: r, 0, p, h, hm => by
    obtain rfl : Piece.close c = p := by simpa using h
    exact ⟨fun _ => Nat.succ_pos _, fun _ => .inl rfl⟩
  | .alone c :: r, 0, p, h, hm => by
    obtain rfl : Piece.alone c = p := by simpa using h
    exact ⟨fun _ => Nat.succ_pos _, fun _ => .inr rfl⟩
  | .close c :: r, m + 1, p, h, hm => by
    have := tail_at r m p (by simpa using h) (Nat.le_of_succ_le_succ hm)
    rw [this]
    exact ⟨Nat.succ_lt_succ, Nat.lt_of_succ_lt_succ⟩
  | .alone c :: r, m + 1, p, h, hm => by
    have := tail_at r m p (by simpa using h) (Nat.le_of_succ_le_succ hm)
    rw [this]
    exact ⟨Nat.succ_lt_succ, Nat.lt_of_succ_lt_succ⟩
theorem at_spec : ∀ (r : Row) (k i p : Nat), (atFrom k r)[i]? = some p → k ≤ p ∧ p - k < r.length ∧ (charsOf (r.drop (p - k + 1))).length + (i + 1) = (charsOf r).length
  | [], k, i, p, h => by simp [atFrom] at h
  | .char c :: r, k, 0, p, h => by
    obtain rfl : k = p := by simpa [atFrom] using h
    refine ⟨Nat.le_refl _, by simp, ?_⟩
    rw [Nat.sub_self]
    rfl
  | .char c :: r, k, i + 1, p, h => by
    obtain ⟨h1, h2, h3⟩ := at_spec r (k + 1) i p (by simpa [atFrom] using h)
    refine ⟨by omega, by rw [List.length_cons]; omega, ?_⟩
    rw [show p - k + 1 = (p - (k + 1) + 1) + 1 by omega, List.drop_succ_cons]
    show _ = (c :: charsOf r).length
    rw [List.length_cons]
    omega
  | .open_ c :: r, k, i, p, h => by
    obtain ⟨h1, h2, h3⟩ := at_spec r (k + 1) i p h
    refine ⟨by omega, by rw [List.length_cons]; omega, ?_⟩
    rw [show p - k + 1 = (p - (k + 1) + 1) + 1 by omega, List.drop_succ_cons]
    exact h3
  | .close c :: r, k, i, p, h => by
    obtain ⟨h1, h2, h3⟩ := at_spec r (k + 1) i p h
    refine ⟨by omega, by rw [List.length_cons]; omega, ?_⟩
    rw [show p - k + 1 = (p - (k + 1) + 1) + 1 by omega, List.drop_succ_cons]
    exact h3
  | .alone c :: r, k, i, p, h => by
    obtain ⟨h1, h2, h3⟩ := at_spec r (k + 1) i p h
    refine ⟨by omega, by rw [List.length_cons]; omega, ?_⟩
    rw [show p - k + 1 = (p - (k + 1) + 1) + 1 by omega, List.drop_succ_cons]
    exact h3
theorem cut_in {R : Rules} {r : Row} {c : Nat} (h : c ∈ cutPl R (charsOf r)) : ∃ p, (atOf r)[c - 1]? = some p ∧ 1 ≤ c ∧ (atOf r).getD (c - 1) 0 = p ∧ p < r.length ∧ p + 1 + tailLen (r.drop (p + 1)) < r.length := by
  have hc := List.mem_range'_1.mp (List.mem_filter.mp h).1
  have hl : (atOf r).length = (charsOf r).length := atFrom_len r 0
  have hlt : c - 1 < (atOf r).length := by omega
  refine ⟨(atOf r)[c - 1], List.getElem?_eq_getElem hlt, hc.1, ?_, ?_⟩
  · rw [List.getD_eq_getElem?_getD, List.getElem?_eq_getElem hlt]
    rfl
  obtain ⟨h1, h2, h3⟩ := at_spec r 0 (c - 1) _ (List.getElem?_eq_getElem hlt)
  rw [Nat.sub_zero] at h2 h3
  refine ⟨h2, ?_⟩
  have hne : charsOf (r.drop ((atOf r)[c - 1] + 1)) ≠ [] := fun z => by
    change (charsOf (r.drop ((atOf r)[c - 1] + 1))).length + (c - 1 + 1) = (charsOf r).length at h3
    rw [z, List.length_nil] at h3
    omega
  have := tail_lt _ hne
  rw [List.length_drop] at this
  omega
/-! ### blanks at the ends -/
theorem leading_at : ∀ (x : Row) (m : Nat) (p : Piece), x[m]? = some p → m ≤ (leading x).length → (p = .char BLANK ↔ m < (leading x).length)
  | [], m, p, h, _ => by simp at h
  | y :: x, m, p, h, hm => by
    rw [leading_cons] at hm ⊢
    by_cases q : y = .char BLANK
    · rw [if_pos q] at hm ⊢
      cases m with
      | zero =>
        obtain rfl : y = p := by simpa using h
        exact ⟨fun _ => by rw [List.length_cons]; omega, fun _ => q⟩
      | succ m =>
        rw [List.length_cons] at hm ⊢
        have := leading_at x m p (by simpa using h) (by omega)
        rw [this]
        omega
    · rw [if_neg q] at hm ⊢
      obtain rfl : m = 0 := by simpa using hm
      obtain rfl : y = p := by simpa using h
      exact ⟨fun z => absurd z q, fun z => absurd z (Nat.lt_irrefl _)⟩
theorem bare_blank : ∀ (x : Row), (∀ p ∈ x, p = Piece.char BLANK) → isBare x = true
  | [], _ => rfl
  | p :: x, h => by
    rw [h p (List.mem_cons_self ..)]
    have := bare_blank x fun q hq => h q (List.mem_cons_of_mem _ hq)
    unfold isBare at this ⊢
    show ([BLANK] ++ charsOf x).all _ = true
    rw [List.all_append, this]
    rfl
theorem lead_lt {x : Row} (h : isBare x ≠ true) : (leading x).length < x.length := by
  have h1 := leading_le x
  refine Nat.lt_of_le_of_ne h1 fun z => h (bare_blank x fun p hp => ?_)
  have h2 := leading_app x
  rw [z, List.drop_length, List.append_nil] at h2
  rw [← h2] at hp
  exact leading_blank x p hp
theorem trail_lt {x : Row} (h : isBare x ≠ true) : (leading (x.drop (leading x).length).reverse).length < x.length - (leading x).length := by
  have hl := lead_lt h
  have h1 := leading_le (x.drop (leading x).length).reverse
  rw [List.length_reverse, List.length_drop] at h1
  refine Nat.lt_of_le_of_ne h1 fun z => ?_
  have hd : (x.drop (leading x).length)[0]? = some x[(leading x).length] := by
    rw [List.getElem?_drop, Nat.add_zero, List.getElem?_eq_getElem hl]
  have hall : ∀ p ∈ x.drop (leading x).length, p = Piece.char BLANK := fun p hp => by
    have h2 := leading_app (x.drop (leading x).length).reverse
    rw [z, show x.length - (leading x).length = (x.drop (leading x).length).reverse.length by rw [List.length_reverse, List.length_drop], List.drop_length, List.append_nil] at h2
    have hp2 := List.mem_reverse.mpr hp
    rw [← h2] at hp2
    exact leading_blank _ p hp2
  have e := hall _ (List.mem_of_getElem? hd)
  have := (leading_at x (leading x).length _ (List.getElem?_eq_getElem hl) (Nat.le_refl _)).mp e
  omega
/-- the piece m places from the end -/
theorem trail_at {x : Row} {m : Nat} {p : Piece} (hm : m ≤ (leading (x.drop (leading x).length).reverse).length) (hlt : m < x.length - (leading x).length) (hp : x[x.length - 1 - m]? = some p) :
    p = .char BLANK ↔ m < (leading (x.drop (leading x).length).reverse).length := by
  refine leading_at _ m p ?_ hm
  have hl : m < (x.drop (leading x).length).length := by rw [List.length_drop]; exact hlt
  rw [List.getElem?_reverse hl, List.getElem?_drop, List.length_drop, show (leading x).length + (x.length - (leading x).length - 1 - m) = x.length - 1 - m by omega]
  exact hp
theorem cutRow_at {r : Row} {i j m : Nat} (h : i + m < j) : (cutRow r i j)[m]? = r[i + m]? := by
  unfold cutRow
  rw [List.getElem?_drop, List.getElem?_take_of_lt h]
end Sg

/-! SgPt -/
set_option Elab.async false
set_option linter.all false
set_option maxRecDepth 100000
set_option maxHeartbeats 4000000
namespace Sg
open PySem PySem.Spec PyProof.Rows L2
/-! ### Part: what stands in a row between two places -/
def ptF (i j : Nat) (l t : Addr) : List (Str × V) := [("first", .int (i : Nat)), ("behind", .int (j : Nat)), ("pieces", .ref l), ("text", .ref t)]
theorem ptF_1 (i j : Nat) (l t : Addr) : (ptF i j l t).lookup ("first" : Str) = some (.int (i : Nat)) := lk_here
theorem ptF_2 (i j : Nat) (l t : Addr) : (ptF i j l t).lookup ("behind" : Str) = some (.int (j : Nat)) := (lk_past (by decide +kernel)).trans lk_here
theorem ptF_3 (i j : Nat) (l t : Addr) : (ptF i j l t).lookup ("pieces" : Str) = some (.ref l) := (lk_past (by decide +kernel)).trans ((lk_past (by decide +kernel)).trans lk_here)
theorem ptF_4 (i j : Nat) (l t : Addr) : (ptF i j l t).lookup ("text" : Str) = some (.ref t) := (lk_past (by decide +kernel)).trans ((lk_past (by decide +kernel)).trans ((lk_past (by decide +kernel)).trans lk_here))
theorem ptF_new (i j : Nat) (l t : Addr) : putF "text" (.ref t) (putF "pieces" (.ref l) (putF "behind" (.int (j : Nat)) (putF "first" (.int (i : Nat)) []))) = ptF i j l t := by
  show putF "text" (.ref t) (putF "pieces" (.ref l) (putF "behind" (.int (j : Nat)) [("first", .int (i : Nat))])) = _
  rw [put_past (by decide +kernel)]
  show putF "text" (.ref t) (putF "pieces" (.ref l) [("first", .int (i : Nat)), ("behind", .int (j : Nat))]) = _
  rw [put_past (by decide +kernel), put_past (by decide +kernel)]
  show putF "text" (.ref t) [("first", .int (i : Nat)), ("behind", .int (j : Nat)), ("pieces", .ref l)] = _
  rw [put_past (by decide +kernel), put_past (by decide +kernel), put_past (by decide +kernel)]
  rfl
structure TxPt (K : PySem.W.Frag) (CQ : Addr) : Prop where
  cl : Cls K CQ
  n1 : NoAttr K CQ "first"
  n2 : NoAttr K CQ "behind"
  n3 : NoAttr K CQ "pieces"
  n4 : NoAttr K CQ "text"
/-- a Part at x: the places, the pieces s and their text -/
def PtAt (CQ : Addr) (F : Addr → Prop) (H : Hp) (x : Addr) (i j : Nat) (s : Fh.Row) : Prop :=
  F x ∧ ∃ dx l t, H x = some (.ins CQ dx (ptF i j l t)) ∧ RowAt F H l s ∧ F t ∧ H t = some (.lst (bv (Fh.rowText s)))
theorem PtAt.keep {CQ : Addr} {F : Addr → Prop} {H H' : Hp} {x : Addr} {i j : Nat} {s : Fh.Row} (h : PtAt CQ F H x i j s) (g : ∀ b o, F b → H b = some o → H' b = some o) : PtAt CQ F H' x i j s := by
  obtain ⟨h1, dx, l, t, h2, h3, h4, h5⟩ := h
  exact ⟨h1, dx, l, t, g _ _ h1 h2, h3.keep g, h4, g _ _ h4 h5⟩
theorem PtAt.same {CQ : Addr} {F : Addr → Prop} {H H' : Hp} {x : Addr} {i j : Nat} {s : Fh.Row} (h : PtAt CQ F H x i j s) (g : Same H H') : PtAt CQ F H' x i j s := h.keep fun b o _ e => g b o e
theorem PtAt.imp {CQ : Addr} {F G : Addr → Prop} {H : Hp} {x : Addr} {i j : Nat} {s : Fh.Row} (h : PtAt CQ F H x i j s) (g : ∀ b, F b → G b) : PtAt CQ G H x i j s := by
  obtain ⟨h1, dx, l, t, h2, h3, h4, h5⟩ := h
  exact ⟨g _ h1, dx, l, t, h2, h3.imp g, g _ h4, h5⟩
theorem cut_nat (xs : List V) (i j : Nat) (hi : i ≤ xs.length) (hj : j ≤ xs.length) : cutV xs (some ((i : Nat) : Int)) (some ((j : Nat) : Int)) = (xs.take j).drop i := by
  have e : ∀ (k d : Nat), k ≤ xs.length → HT.sIx xs.length d (some ((k : Nat) : Int)) = k := fun k d hk => by
    rw [HT.sIx_nat]
    omega
  unfold cutV
  rw [e i _ hi, e j _ hj, List.drop_take]
theorem paired_take {α β : Type} {R : α → β → Prop} : ∀ {l : List α} {m : List β} (n : Nat), Paired R l m → Paired R (l.take n) (m.take n)
  | _, _, 0, _ => .nil
  | _, _, n + 1, .nil => .nil
  | _, _, n + 1, .cons h t => .cons h (paired_take n t)
theorem paired_drop {α β : Type} {R : α → β → Prop} : ∀ {l : List α} {m : List β} (n : Nat), Paired R l m → Paired R (l.drop n) (m.drop n)
  | _, _, 0, h => h
  | _, _, n + 1, .nil => .nil
  | _, _, n + 1, .cons h t => paired_drop n t
theorem nvs_at {l : List Nat} {i n : Nat} (h : l[i]? = some n) : (nvs l)[i]? = some (V.int (n : Nat)) := by
  unfold nvs
  rw [List.getElem?_map, h]
  rfl
theorem text_le {r : Fh.Row} {i : Nat} : (Fh.rowText (r.take i)).length ≤ (Fh.rowText r).length := by
  conv => rhs; rw [← List.take_append_drop i r, rowText_app, List.length_append]
  omega
theorem starts_off {r : Fh.Row} {f i : Nat} (h : i ≤ r.length) : ((startsOf r).map fun n => f + n)[i]? = some (f + (Fh.rowText (r.take i)).length) := by
  rw [List.getElem?_map, startsOf_at h]
  rfl
theorem drop_take' {α : Type} (l : List α) (f a b : Nat) : (l.take (f + b)).drop (f + a) = ((l.drop f).take b).drop a := by
  rw [List.take_drop, List.drop_drop]
section
variable {P : Program} {w : World} {K : PySem.W.Frag} {mg : Str → Option Value} {base : Heap} {CQ CW : Addr}
def spPartI (CQ CW : Addr) (K : PySem.W.Frag) : Sp := fun vs H Q _ => ∃ (p dx x a : Addr) (b : Fh.Bytes) (f : Nat) (r : Fh.Row) (i j : Nat) (F : Addr → Prop), vs = [.ref p, .ref x, .int (i : Nat), .int (j : Nat)] ∧ H p = some (.ins CQ dx []) ∧ RowO CW K F H x a b f r ∧ x ≠ p ∧ i ≤ j ∧ j ≤ r.length ∧
  ∀ H' : Hp, Kp p H H' → (∃ l t, H l = none ∧ H t = none ∧ H' p = some (.ins CQ dx (ptF i j l t)) ∧ (∃ ys : List Addr, H' l = some (.lst (ys.map V.ref)) ∧ Paired (fun (y : Addr) (p : Fh.Piece) => F y ∧ H' y = some (pcT p)) ys (cutRow r i j)) ∧ H' t = some (.lst (bv (Fh.rowText (cutRow r i j))))) → Q .non H'
theorem scPartI : FnScope ["self", "row", "first", "behind"] ["self", "row", "first", "behind"] (defScope sPartI) := ⟨rfl, rfl, rfl, by decide +kernel, rfl, by decide +kernel, by decide +kernel⟩
theorem ok_partI {f : Addr} {fd : FuncData} (F : Fun K "__init__" "Part.__init__" sPartI f fd) (T : TxPt K CQ) (TO : TxO K CW) : FnOk P w K mg base CX0 2 f fd ["self", "row", "first", "behind"] (spPartI CQ CW K) := by
  refine F.ok scPartI (fun vs H Q E h => ?_) (fun cdv A outer s H vs Q E hr h => ?_)
  · obtain ⟨p, dx, x, a, b, f, r, i, j, G, rfl, _⟩ := h
    rfl
  · obtain ⟨p, dx, x, a, b, f0, r, i, j, G, rfl, hp, hRow, hxp, hij, hjr, q⟩ := h
    obtain ⟨_, dxo, lo, so, hxo, ⟨_, ys, hy, hP⟩, _, hso, hsa, hfb, hpre⟩ := id hRow
    refine ⟨_, pss_cons (ps_fld (pv 0) (pv 2) rfl) (pss_cons (ps_fld (pv 0) (pv 3) rfl)
      (pss_cons (ps_fld (pv 0) (pe_slice sl_list (pe_fld (pv 1) rfl) (po_some (pv 2)) (po_some (pv 3))) rfl)
      (pss_one (ps_fld (pv 0) (pe_slice sl_list (pe_fld (pv 1) rfl) (po_some (pe_ix ix_list (pe_fld (pv 1) rfl) (pv 2) (fun _ _ => rfl))) (po_some (pe_ix ix_list (pe_fld (pv 1) rfl) (pv 3) (fun _ _ => rfl)))) rfl)))), ?_⟩
    have keep : ∀ {c : Addr} {o u : HO} {H1 : Hp}, H1 c = some o → c ≠ p → upd H1 p u c = some o := fun e n => by
      rw [upd_ne n]
      exact e
    have yp : lo ≠ p := ne_of hy hp (by intro z; cases z)
    have sp : so ≠ p := ne_of hso hp (by intro z; cases z)
    have kp0 : ∀ {u1 u2 : HO}, Kp p H (upd (upd H p u1) p u2) := fun b o e n => by
      rw [upd_ne n, upd_ne n]
      exact e
    refine ⟨_, rfl, _, rfl, p, CQ, dx, [], rfl, hp, T.cl, T.n1, (by show 0 < 1000; decide), _, rfl, _, rfl, p, CQ, dx, _, rfl, upd_same, T.cl, T.n2, (by show 1 < 1000; decide), ?_⟩
    obtain ⟨H2, e2⟩ : ∃ H2 : Hp, H2 = upd (upd H p (.ins CQ dx (putF "first" (.int (i : Nat)) []))) p (.ins CQ dx (putF "behind" (.int (j : Nat)) (putF "first" (.int (i : Nat)) []))) := ⟨_, rfl⟩
    have k2 : Kp p H H2 := by rw [e2]; exact kp0
    have h2p : H2 p = some (.ins CQ dx (putF "behind" (.int (j : Nat)) (putF "first" (.int (i : Nat)) []))) := by rw [e2]; exact upd_same
    rw [← e2]
    have hlen : (ys.map V.ref).length = r.length := by rw [List.length_map, hP.length]
    refine ⟨_, rfl, x, CW, dxo, _, _, rfl, k2 _ _ hxo hxp, TO.cl, TO.n2, woF_2 _ _ _, _, rfl, _, rfl, _, rfl, _, rfl, lo, _, rfl, SqL.of (k2 _ _ hy yp), fun l hl => ?_⟩
    rw [cut_nat _ _ _ (by omega) (by omega)]
    have esl : ((ys.map V.ref).take j).drop i = ((ys.take j).drop i).map V.ref := by rw [List.map_drop, List.map_take]
    rw [esl]
    have hlH : H l = none := by
      cases e : H l with
      | none => rfl
      | some o =>
        by_cases z : l = p
        · rw [z, h2p] at hl
          cases hl
        · rw [k2 _ _ e z] at hl
          cases hl
    have hlp : p ≠ l := ne_of_none h2p hl
    refine ⟨_, rfl, p, CQ, dx, _, rfl, (by rw [upd_ne hlp]; exact h2p), T.cl, T.n3, (by show 2 < 1000; decide), ?_⟩
    obtain ⟨H3, e3⟩ : ∃ H3 : Hp, H3 = upd (upd H2 l (.lst (((ys.take j).drop i).map V.ref))) p (.ins CQ dx (putF "pieces" (.ref l) (putF "behind" (.int (j : Nat)) (putF "first" (.int (i : Nat)) [])))) := ⟨_, rfl⟩
    have k3 : Kp p H H3 := by
      rw [e3]
      intro b o e n
      rw [upd_ne n, upd_ne (ne_of_none (k2 _ _ e n) hl)]
      exact k2 _ _ e n
    have h3p : H3 p = some (.ins CQ dx (putF "pieces" (.ref l) (putF "behind" (.int (j : Nat)) (putF "first" (.int (i : Nat)) [])))) := by rw [e3]; exact upd_same
    have h3l : H3 l = some (.lst (((ys.take j).drop i).map V.ref)) := by rw [e3, upd_ne (Ne.symm hlp), upd_same]
    rw [← e3]
    refine ⟨_, rfl, x, CW, dxo, _, _, rfl, k3 _ _ hxo hxp, TO.cl, TO.n1, woF_1 _ _ _, _, rfl, x, CW, dxo, _, _, rfl, k3 _ _ hxo hxp, TO.cl, TO.n3, woF_3 _ _ _, _, rfl, so, _, _, _, rfl, rfl, SqL.of (k3 _ _ hso sp), atI_nat (nvs_at (starts_off (by omega))), _, rfl,
      _, rfl, x, CW, dxo, _, _, rfl, k3 _ _ hxo hxp, TO.cl, TO.n3, woF_3 _ _ _, _, rfl, so, _, _, _, rfl, rfl, SqL.of (k3 _ _ hso sp), atI_nat (nvs_at (starts_off hjr)), _, rfl, a, _, rfl, sq_kp hp k3 hsa, fun t ht => ?_⟩
    have h1 : ∀ m, f0 + (Fh.rowText (r.take m)).length ≤ b.length := fun m => by
      have e1 := hpre.length_le
      rw [List.length_drop] at e1
      have := text_le (r := r) (i := m)
      omega
    have e : cutV (bv b) (some ((f0 + (Fh.rowText (r.take i)).length : Nat) : Int)) (some ((f0 + (Fh.rowText (r.take j)).length : Nat) : Int)) = bv (Fh.rowText (cutRow r i j)) := by
      rw [cut_nat _ _ _ (by rw [bv_len]; exact h1 i) (by rw [bv_len]; exact h1 j)]
      unfold cutRow
      rw [← text_cut r i j hij hjr]
      unfold bv
      rw [← List.map_take, ← List.map_drop, drop_take']
      obtain ⟨tl, e3⟩ := hpre
      rw [← e3, List.take_append_of_le_length text_le]
    rw [e]
    have htH : H t = none := by
      cases e : H t with
      | none => rfl
      | some o =>
        by_cases z : t = p
        · rw [z, h3p] at ht
          cases ht
        · rw [k3 _ _ e z] at ht
          cases ht
    have htp : p ≠ t := ne_of_none h3p ht
    have htl : l ≠ t := ne_of_none h3l ht
    refine ⟨_, rfl, p, CQ, dx, _, rfl, (by rw [upd_ne htp]; exact h3p), T.cl, T.n4, (by show 3 < 1000; decide), ?_⟩
    have k4 : ∀ {u : HO}, Kp p H (upd (upd H3 t (.lst (bv (Fh.rowText (cutRow r i j))))) p u) := fun b o e n => by
      rw [upd_ne n, upd_ne (ne_of_none (k3 _ _ e n) ht)]
      exact k3 _ _ e n
    refine q _ k4 ⟨l, t, hlH, htH, Eq.trans upd_same (congrArg (fun q => some (HO.ins CQ dx q)) (ptF_new i j l t)), ⟨_, ?_, (paired_drop _ (paired_take _ hP)).mono fun y pc z => ⟨z.1, k4 _ _ z.2 (ne_of z.2 hp (by intro z; cases z))⟩⟩, ?_⟩
    · rw [upd_ne (Ne.symm hlp), upd_ne htl]
      exact h3l
    · rw [upd_ne (Ne.symm htp), upd_same]
/-- Part(row, i, j) is made -/
theorem part_made {H : Hp} {p dx x a : Addr} {b : Fh.Bytes} {f : Nat} {r : Fh.Row} {i j : Nat} {F : Addr → Prop} {R : Hp → Prop} {E : XK} (np : H p = none) (ndx : H dx = none) (ne : dx ≠ p) (G : Addr → Prop) (hRow : RowO CW K F H x a b f r) (hij : i ≤ j) (hjr : j ≤ r.length) (gF : ∀ c, F c → G c) (gN : ∀ c, H c = none → G c)
    (k : ∀ H' : Hp, Same H H' → PtAt CQ G H' p i j (cutRow r i j) → R H') :
    spPartI CQ CW K (V.ref p :: ([V.ref x, .int (i : Nat), .int (j : Nat)] ++ [])) (upd (upd H dx (.own p)) p (.ins CQ dx [])) (fun v H2 => v = .non ∧ R H2) E := by
  have s0 : Same H (upd (upd H dx (.own p)) p (.ins CQ dx [])) := fun b o e => by
    rw [upd_ne (ne_of_none e np), upd_ne (ne_of_none e ndx)]
    exact e
  refine ⟨p, dx, x, a, b, f, r, i, j, F, rfl, upd_same, hRow.same s0, ?_, hij, hjr, fun H' kp ⟨l, t, hl, ht, h1, ⟨ys, h2, h3⟩, h4⟩ => ⟨rfl, k H' (Same.made np ndx kp) ⟨gN p np, dx, l, t, h1, ⟨gN l (s0.free hl), ys, h2, h3.mono fun _ _ z => ⟨gF _ z.1, z.2⟩⟩, gN t (s0.free ht), h4⟩⟩⟩
  obtain ⟨_, dxo, _, _, hxo, _⟩ := hRow
  exact ne_of_none hxo np
end
/-! ### where things stand -/
section
variable {K : PySem.W.Frag} {CQ CW : Addr}
theorem RowAt.off {F : Addr → Prop} {H : Hp} {x L : Addr} {r : Fh.Row} (h : RowAt F H x r) (n : H L = none) : RowAt (fun c => F c ∧ c ≠ L) H x r := by
  obtain ⟨h1, ys, h2, h3⟩ := h
  exact ⟨⟨h1, ne_of_none h2 n⟩, ys, h2, h3.mono fun _ _ z => ⟨⟨z.1, ne_of_none z.2 n⟩, z.2⟩⟩
theorem RowO.off {F : Addr → Prop} {H : Hp} {x a L : Addr} {b : Fh.Bytes} {f : Nat} {r : Fh.Row} (h : RowO CW K F H x a b f r) (n : H L = none) : RowO CW K (fun c => F c ∧ c ≠ L) H x a b f r := by
  obtain ⟨h1, dx, l, s, h2, h3, h4, h5, h6⟩ := h
  exact ⟨⟨h1, ne_of_none h2 n⟩, dx, l, s, h2, h3.off n, ⟨h4, ne_of_none h5 n⟩, h5, h6⟩
theorem PtAt.off {F : Addr → Prop} {H : Hp} {x L : Addr} {i j : Nat} {s : Fh.Row} (h : PtAt CQ F H x i j s) (n : H L = none) : PtAt CQ (fun c => F c ∧ c ≠ L) H x i j s := by
  obtain ⟨h1, dx, l, t, h2, h3, h4, h5⟩ := h
  exact ⟨⟨h1, ne_of_none h2 n⟩, dx, l, t, h2, h3.off n, ⟨h4, ne_of_none h5 n⟩, h5⟩
/-- Parts in a list, each by its places and its pieces -/
abbrev Pc := (Nat × Nat) × Fh.Row
def PtsAt (CQ : Addr) (F : Addr → Prop) (H : Hp) (D : Addr) (l : List Pc) : Prop := F D ∧ ∃ ts : List Addr, H D = some (.lst (ts.map V.ref)) ∧ Paired (fun (t : Addr) (z : Pc) => PtAt CQ F H t z.1.1 z.1.2 z.2) ts l
theorem PtsAt.keep {F : Addr → Prop} {H H' : Hp} {D : Addr} {l : List Pc} (h : PtsAt CQ F H D l) (g : ∀ b o, F b → H b = some o → H' b = some o) : PtsAt CQ F H' D l := by
  obtain ⟨h1, ts, h2, h3⟩ := h
  exact ⟨h1, ts, g _ _ h1 h2, h3.mono fun _ _ z => z.keep g⟩
theorem PtsAt.same {F : Addr → Prop} {H H' : Hp} {D : Addr} {l : List Pc} (h : PtsAt CQ F H D l) (g : Same H H') : PtsAt CQ F H' D l := h.keep fun b o _ e => g b o e
theorem PtsAt.imp {F G : Addr → Prop} {H : Hp} {D : Addr} {l : List Pc} (h : PtsAt CQ F H D l) (g : ∀ b, F b → G b) : PtsAt CQ G H D l := by
  obtain ⟨h1, ts, h2, h3⟩ := h
  exact ⟨g _ h1, ts, h2, h3.mono fun _ _ z => z.imp g⟩
theorem PtsAt.off {F : Addr → Prop} {H : Hp} {D L : Addr} {l : List Pc} (h : PtsAt CQ F H D l) (n : H L = none) : PtsAt CQ (fun c => F c ∧ c ≠ L) H D l := by
  obtain ⟨h1, ts, h2, h3⟩ := h
  exact ⟨⟨h1, ne_of_none h2 n⟩, ts, h2, h3.mono fun _ _ z => z.off n⟩
/-- a part of the row r, by its places -/
def pcOf (r : Fh.Row) (z : Nat × Nat) : Pc := (z, cutRow r z.1 z.2)
end
end Sg

/-! SgLn3 -/
set_option Elab.async false
set_option linter.all false
set_option maxRecDepth 100000
set_option maxHeartbeats 4000000
namespace Sg
open PySem PySem.Spec PyProof.Rows L2
section
variable {P : Program} {w : World} {K : PySem.W.Frag} {mg : Str → Option Value} {base : Heap} {CF CR CL CW : Addr}
/-! ### paragraph_row -/
def spPRow (CF CW : Addr) (K : PySem.W.Frag) : Sp := fun vs H Q E => ∃ (a : Addr) (full : Fh.Bytes) (f e : Nat), vs = [.ref a, .int (f : Nat), .int (e : Nat)] ∧ SqL K H a (bv full) ∧ f + 1 ≤ e ∧ e ≤ full.length ∧ full.length ≤ 262144 ∧
  (∀ k, Fh.rowRead (inB full (f + 1) e) = .error k → Bad CF E (f + 1 + k)) ∧ ∀ r, Fh.rowRead (inB full (f + 1) e) = .ok r → (4096 < r.length ∨ Fh.paired r = false → Bad CF E f) ∧
    (¬ (4096 < r.length ∨ Fh.paired r = false) → ∀ (H' : Hp) (x : Addr), Same H H' → RowO CW K (Fresh H) H' x a full (f + 1) r → Q (.ref x) H')
theorem scPRow : FnScope ["text", "first", "behind", "row"] ["text", "first", "behind"] (defScope sPRow) := ⟨rfl, rfl, rfl, by decide +kernel, rfl, by decide +kernel, by decide +kernel⟩
theorem ok_prow {f fI : Addr} {fd fdI : FuncData} (F : Fun K "paragraph_row" "paragraph_row" sPRow f fd) (TO : TxO K CW) (TW : TxW mg) (TN : TxN mg) (TF : TxF K mg CF) (GR : CallOk P w K mg base (L2N.CX P w) 6 "read_row" ["text", "first", "behind"] (spRow CF CW K)) (GP : CallOk P w K mg base CX0 3 "is_paired" ["row"] (spPaired CW K))
    (iF : PySem.W.findIn K (.ref CF) "__init__" = some (some (.ref fI))) (tF : PySem.W.typeIn K (.ref fI) = some (.type "function")) (FI : FnOk P w K mg base CX0 2 fI fdI ["self", "place"] (spFault CF)) (bI : Binds K fdI ["self", "place"] []) :
    FnOk P w K mg base (L2N.CX P w) 7 f fd ["text", "first", "behind"] (spPRow CF CW K) := by
  refine okN F scPRow (fun vs H Q E h => ?_) (fun cdv A outer s H vs Q E hr h => ?_)
  · obtain ⟨a, full, f, e, rfl, _⟩ := h
    rfl
  · obtain ⟨a, full, f0, e0, rfl, hS, hfe, hel, hfl, bad, good⟩ := h
    have hr3 : Room 3 (A.deeper (envOfC (Str.ofString "paragraph_row") (defScope sPRow) s.heap.objs.size f cdv)) := hr.mono (by decide)
    refine ⟨_, pss_cons (ps_set (i := 3) scPRow.nd rfl (Or.inl rfl) (pe_c GR hr (by rfl) (passN rfl rfl rfl rfl) (by exact (pa_cons (pv 0) (pa_cons (pe_op op_add (pv 1) pe_int) (pa_cons (pv 2) pa_nil))))))
      (pss_cons (ps_if (PW.pt (pw_or (pt_cmpR op_gt (pe_callB call_len_seq (by rfl) TN.len PySem.boot_len (pa_cons (pe_fld (pv 3) rfl) pa_nil)) (pe_k TW.mostP (by rfl)) (nomark _)) (pw_or1 (pt_not (pt_val (pe_c GP hr3 (by rfl) pass0 (by exact (pa_cons (pv 3) pa_nil))))))))
        (pss_one (L2N.ps_raise rfl (L2N.takes_of rfl rfl rfl rfl) (pmk_oexN TF.ox iF tF FI hr3 bI .nil pass0 (by rfl) TF.g (pa_cons (pv 1) pa_nil)))) pss_nil)
      (pss_one (ps_ret (pv 3)))), ?_⟩
    refine ⟨_, rfl, _, rfl, _, _, rfl, rfl, _, rfl, a, full, f0 + 1, e0, rfl, hS, by omega, hel, hfl, bad, fun r hR hl H1 x s1 hx => ?_⟩
    obtain ⟨g1, g2⟩ := good r hR
    obtain ⟨hxF, dxo, lo, so, hxo, ⟨_, xs, hX, hP⟩, _⟩ := id hx
    refine ⟨_, rfl, x, CW, dxo, _, _, rfl, hxo, TO.cl, TO.n2, woF_2 _ _ _, lo, _, rfl, .inl (SqL.of hX), _, _, rfl, rfl, _, rfl, tst (fun q => ?_) (fun q => ?_)⟩
    · rw [List.length_map, hP.length] at q
      exact iteT (raise_n (K := K) (g1 (.inl (by omega))) fun k z => ⟨_, rfl, z⟩)
    · rw [List.length_map, hP.length] at q
      have hq : ¬ 4096 < r.length := by omega
      refine ⟨_, rfl, x, a, full, f0 + 1, r, _, rfl, hx, by omega, fun H2 s2 => ⟨_, rfl, ?_⟩⟩
      cases hp : Fh.paired r with
      | true =>
        refine iteF ⟨_, rfl, g2 ?_ H2 x (s1.trans s2) (hx.same s2)⟩
        rintro (z | z)
        · exact hq z
        · rw [hp] at z
          cases z
      | false => exact iteT (raise_n (K := K) (g1 (.inr hp)) fun k z => ⟨_, rfl, z⟩)
/-! ### read_line -/
/-- a Line, its row's text in the bytes full, that stand at a -/
def LnAt (CL CW : Addr) (K : PySem.W.Frag) (F : Addr → Prop) (H : Hp) (x a : Addr) (full : Fh.Bytes) (l : Fh.Line) : Prop :=
  F x ∧ ∃ (dx tx : Addr) (v : V), H x = some (.ins CL dx (lnF (.ref tx) v)) ∧ F tx ∧ H tx = some (.lst (bv (lnTxt l))) ∧ match l with
    | .raw _ => v = .non
    | .para r => ∃ (rw : Addr) (f : Nat), v = .ref rw ∧ RowO CW K F H rw a full f r ∧ r.length ≤ 4096 ∧ Fh.paired r = true
theorem LnAt.keep {F : Addr → Prop} {H H' : Hp} {x a : Addr} {full : Fh.Bytes} {l : Fh.Line} (h : LnAt CL CW K F H x a full l) (g : ∀ b o, F b → H b = some o → H' b = some o) (q : SqL K H a (bv full) → SqL K H' a (bv full)) : LnAt CL CW K F H' x a full l := by
  obtain ⟨h1, dx, tx, v, h2, h3, h4, h5⟩ := h
  refine ⟨h1, dx, tx, v, g _ _ h1 h2, h3, g _ _ h3 h4, ?_⟩
  cases l with
  | raw t => exact h5
  | para r =>
    obtain ⟨rw, f, e, h6, h7⟩ := h5
    exact ⟨rw, f, e, h6.keep g q, h7⟩
theorem LnAt.same {F : Addr → Prop} {H H' : Hp} {x a : Addr} {full : Fh.Bytes} {l : Fh.Line} (h : LnAt CL CW K F H x a full l) (s : Same H H') : LnAt CL CW K F H' x a full l := h.keep (fun c o _ e => s c o e) fun z => s.seq z
theorem LnAt.imp {F G : Addr → Prop} {H : Hp} {x a : Addr} {full : Fh.Bytes} {l : Fh.Line} (h : LnAt CL CW K F H x a full l) (g : ∀ b, F b → G b) : LnAt CL CW K G H x a full l := by
  obtain ⟨h1, dx, tx, v, h2, h3, h4, h5⟩ := h
  refine ⟨g _ h1, dx, tx, v, h2, g _ h3, h4, ?_⟩
  cases l with
  | raw t => exact h5
  | para r =>
    obtain ⟨rw, f, e, h6, h7⟩ := h5
    exact ⟨rw, f, e, h6.imp g, h7⟩
def spRLine (CF CL CW : Addr) (K : PySem.W.Frag) : Sp := fun vs H Q E => ∃ (a : Addr) (full : Fh.Bytes) (f : Nat), vs = [.ref a, .int (f : Nat), .int (lineEnd full f : Nat)] ∧ SqL K H a (bv full) ∧ f < full.length ∧ full.length ≤ 262144 ∧
  match lineM f (full.drop f) with
  | .error q => Bad CF E q
  | .ok l => ∀ (H' : Hp) (x : Addr), Same H H' → LnAt CL CW K (Fresh H) H' x a full l → Q (.ref x) H'
theorem scRLine : FnScope ["text", "first", "behind"] ["text", "first", "behind"] (defScope sRLine) := ⟨rfl, rfl, rfl, by decide +kernel, rfl, by decide +kernel, by decide +kernel⟩
theorem ok_rline {f fI : Addr} {fd fdI : FuncData} (F : Fun K "read_line" "read_line" sRLine f fd) (TL : TxLn K CL) (TD : TxDc mg) (TN : TxN mg) (TF : TxF K mg CF) (GL : NewOk P w K mg base 2 "Line" CL ["self", "text", "row"] (spLineI CL))
    (GP : CallOk P w K mg base (L2N.CX P w) 7 "paragraph_row" ["text", "first", "behind"] (spPRow CF CW K)) (GA : CallOk P w K mg base (L2N.CX P w) 5 "check_raw" ["text", "first", "behind"] (spRaw CF K))
    (iF : PySem.W.findIn K (.ref CF) "__init__" = some (some (.ref fI))) (tF : PySem.W.typeIn K (.ref fI) = some (.type "function")) (FI : FnOk P w K mg base CX0 2 fI fdI ["self", "place"] (spFault CF)) (bI : Binds K fdI ["self", "place"] []) :
    FnOk P w K mg base (L2N.CX P w) 8 f fd ["text", "first", "behind"] (spRLine CF CL CW K) := by
  refine okN F scRLine (fun vs H Q E h => ?_) (fun cdv A outer s H vs Q E hr h => ?_)
  · obtain ⟨a, full, f, rfl, _⟩ := h
    rfl
  · obtain ⟨a, full, f0, rfl, hS, hf, hfl, out⟩ := h
    have hr3 : Room 3 (A.deeper (envOfC (Str.ofString "read_line") (defScope sRLine) s.heap.objs.size f cdv)) := hr.mono (by decide)
    have hr5 : Room 5 (A.deeper (envOfC (Str.ofString "read_line") (defScope sRLine) s.heap.objs.size f cdv)) := hr.mono (by decide)
    refine ⟨_, pss_cons (ps_if (pt_cmpR op_notIn_seq (pe_ix ix_list (pv 0) (pv 1) (fun _ _ => rfl)) (pe_tup (pa_cons (pe_k TD.raw (by rfl)) (pa_cons (pe_k TD.para (by rfl)) pa_nil))) (by rfl))
        (pss_one (L2N.ps_raise rfl (L2N.takes_of rfl rfl rfl rfl) (pmk_oexN TF.ox iF tF FI hr3 bI .nil pass0 (by rfl) TF.g (pa_cons (pv 1) pa_nil)))) pss_nil)
      (pss_cons (ps_if (pt_cmpR op_eq (pv 2) (pe_callB call_len_seq (by rfl) TN.len PySem.boot_len (pa_cons (pv 0) pa_nil)) (nomark _))
        (pss_one (L2N.ps_raise rfl (L2N.takes_of rfl rfl rfl rfl) (pmk_oexN TF.ox iF tF FI hr3 bI .nil pass0 (by rfl) TF.g (pa_cons (pv 2) pa_nil)))) pss_nil)
      (pss_cons (ps_if (pt_cmpR op_eq (pe_ix ix_list (pv 0) (pv 1) (fun _ _ => rfl)) (pe_k TD.para (by rfl)) (nomark _))
        (pss_one (ps_ret (pe_mk GL hr3 (by rfl) (by exact (pa_cons (pe_slice sl_list (pv 0) (po_some (pv 1)) (po_some (pv 2))) (pa_cons (pe_c GP hr (by rfl) (passN rfl rfl rfl rfl) (by exact (pa_cons (pv 0) (pa_cons (pv 1) (pa_cons (pv 2) pa_nil))))) pa_nil)))))) pss_nil)
      (pss_cons (ps_expr (pe_c GA hr5 (by rfl) (passN rfl rfl rfl rfl) (by exact (pa_cons (pv 0) (pa_cons (pv 1) (pa_cons (pv 2) pa_nil))))))
      (pss_one (ps_ret (pe_mk GL hr3 (by rfl) (by exact (pa_cons (pe_slice sl_list (pv 0) (po_some (pv 1)) (po_some (pv 2))) (pa_cons pe_non pa_nil))))))))), ?_⟩
    obtain ⟨b, hbd⟩ : ∃ b : Fh.Bytes, b = full.drop f0 := ⟨_, rfl⟩
    have hbl : b.length = full.length - f0 := by rw [hbd, List.length_drop]
    have hxl := ofLine_le b
    have hle : lineEnd full f0 = f0 + (ofLine b).length := by rw [hbd]; rfl
    have hin : inB full f0 (lineEnd full f0) = ofLine b := by rw [hbd]; exact ofLine_in full f0
    have hin1 : inB full (f0 + 1) (lineEnd full f0) = (ofLine b).drop 1 := by
      rw [← hin]
      unfold inB
      rw [List.drop_drop]
    rw [← hbd] at out
    have hat : (bv full)[f0]? = some (V.int (lk b : Nat)) := by rw [hbd]; exact bv_at hf
    have hcut : cutV (bv full) (some ((f0 : Nat) : Int)) (some ((lineEnd full f0 : Nat) : Int)) = bv (ofLine b) := by
      rw [cut_nat _ _ _ (by rw [bv_len]; omega) (by rw [bv_len, hle]; omega)]
      unfold bv
      rw [← List.map_take, ← List.map_drop]
      exact congrArg bv hin
    refine ⟨_, rfl, _, rfl, a, _, _, _, rfl, rfl, hS, atI_nat hat, (by show 2 ≤ sizeLine; decide), fun t ht => ⟨t, _, rfl, .inr (.inl (.inl upd_same)), rfl, rfl, _, rfl, ?_⟩⟩
    have st : Same H (upd H t (.tup [V.int 124, V.int 62])) := same_new ht
    have ein : inV (V.int (lk b : Nat)) [V.int 124, V.int 62] = decide (lk b ∈ [124, 62]) := inV_nat (lk b) [124, 62]
    show if (!inV (V.int (lk b : Nat)) [V.int 124, V.int 62]) = true then _ else _
    rw [ein]
    generalize upd H t (.tup [V.int 124, V.int 62]) = H1 at st
    have hS1 := st.seq hS
    by_cases hm : lk b ∈ [124, 62]
    · rw [decide_eq_true hm]
      have hm2 : lk b = 124 ∨ lk b = 62 := by simpa using hm
      refine iteF ⟨_, rfl, _, rfl, a, _, rfl, .inl hS1, rfl, _, rfl, ?_⟩
      rw [show decide (V.int (lineEnd full f0 : Nat) = V.int ((bv full).length : Nat)) = decide (lineEnd full f0 = (bv full).length) from decI]
      refine tst (fun q => ?_) (fun q => ?_)
      · rw [bv_len, hle] at q
        rw [lineM_end hm2 (show (ofLine b).length = b.length by omega)] at out
        have e : f0 + b.length = lineEnd full f0 := by rw [hle]; omega
        rw [e] at out
        exact raise_n (K := K) out fun k z => ⟨_, rfl, z⟩
      · rw [bv_len, hle] at q
        have hne : (b.takeWhile fun (y : UInt8) => y != 10).length ≠ b.length := fun z => q (by
          have : (ofLine b).length = b.length := z
          omega)
        have hx1 : 1 ≤ (ofLine b).length := by
          cases hb : b with
          | nil => rw [hb] at hbl; simp at hbl; omega
          | cons c r =>
            have hc : c.toNat = lk b := by rw [hb]; rfl
            have : ofLine (c :: r) = c :: ofLine r := tw_cons (by omega)
            rw [this]
            simp
        refine ⟨_, rfl, _, rfl, a, _, _, _, rfl, rfl, hS1, atI_nat hat, rfl, _, rfl, ?_⟩
        rw [show decide (V.int (lk b : Nat) = V.int 62) = decide (lk b = 62) from decI (b := 62)]
        have htx : ∀ c : UInt8, c.toNat = lk b → ofLine b = c :: (ofLine b).drop 1 := fun c hc => by
          cases hb : b with
          | nil => rw [hb] at hbl; simp at hbl; omega
          | cons c' r =>
            have hc' : c'.toNat = lk b := by rw [hb]; rfl
            have e : ofLine (c' :: r) = c' :: ofLine r := tw_cons (by omega)
            rw [e, List.drop_succ_cons, List.drop_zero]
            congr 1
            exact UInt8.toNat_inj.mp (by omega)
        refine tst (fun q2 => ?_) (fun q2 => ?_)
        · rw [lineM_para q2 hne] at out
          refine ⟨_, rfl, _, rfl, _, rfl, _, rfl, _, rfl, a, _, rfl, hS1, fun l hl => ?_⟩
          rw [hcut]
          have s2 : Same H (upd H1 l (.lst (bv (ofLine b)))) := st.trans (same_new hl)
          refine ⟨_, rfl, _, rfl, _, rfl, a, full, f0, lineEnd full f0, rfl, s2.seq hS, by omega, by omega, hfl, fun k hk => ?_, fun r hR => ⟨fun z => ?_, fun z H3 x s3 hx => ?_⟩⟩
          · rw [hin1] at hk
            have hk : Fh.rowRead ((b.takeWhile fun (y : UInt8) => y != 10).drop 1) = .error k := hk
            rw [hk] at out
            exact out
          · rw [hin1] at hR
            have hR : Fh.rowRead ((b.takeWhile fun (y : UInt8) => y != 10).drop 1) = .ok r := hR
            rw [hR] at out
            dsimp only at out
            rw [if_pos z] at out
            exact out
          · rw [hin1] at hR
            have hRt := rowRead_text hR
            have hR : Fh.rowRead ((b.takeWhile fun (y : UInt8) => y != 10).drop 1) = .ok r := hR
            rw [hR] at out
            dsimp only at out
            rw [if_neg z] at out
            have z1 : r.length ≤ 4096 := Nat.le_of_not_lt fun q => z (.inl q)
            have z2 : Fh.paired r = true := by
              cases e : Fh.paired r with
              | true => rfl
              | false => exact absurd (.inr e) z
            refine fun p dx np nd ne => ⟨p, dx, .ref l, .ref x, rfl, upd_same, fun H4 h4 k4 => ⟨rfl, ?_⟩⟩
            have s4 : Same H3 H4 := Same.made np nd k4
            have s34 := s3.trans s4
            have etx : bv (ofLine b) = bv (lnTxt (.para r)) := by
              rw [htx 62 (by rw [q2]; rfl)]
              show _ = bv (62 :: Fh.rowText r)
              rw [hRt]
            refine out H4 p (s2.trans s34) ⟨(s2.trans s3).free np, dx, l, .ref x, h4, st.free hl, by rw [← etx]; exact s34 _ _ upd_same, x, f0 + 1, rfl, (hx.same s4).imp fun c hc => s2.free hc, z1, z2⟩
        · have q3 : lk b = 124 := by omega
          rw [lineM_raw q3 hne] at out
          refine ⟨_, rfl, _, rfl, _, rfl, a, full, f0, lineEnd full f0, rfl, hS1, by omega, by omega, hfl, fun k hk => ?_, fun t hR => ⟨fun z => ?_, fun z H3 s3 => ?_⟩⟩
          · rw [hin1] at hk
            have hk : Fh.charsRead ((b.takeWhile fun (y : UInt8) => y != 10).drop 1) = .error k := hk
            rw [hk] at out
            exact out
          · rw [hin1] at hR
            have hR : Fh.charsRead ((b.takeWhile fun (y : UInt8) => y != 10).drop 1) = .ok t := hR
            rw [hR] at out
            dsimp only at out
            rw [if_pos z] at out
            exact out
          · rw [hin1] at hR
            have hRt := charsRead_text hR
            have hR : Fh.charsRead ((b.takeWhile fun (y : UInt8) => y != 10).drop 1) = .ok t := hR
            rw [hR] at out
            dsimp only at out
            rw [if_neg z] at out
            have s13 := st.trans s3
            refine ⟨_, rfl, _, rfl, _, rfl, _, rfl, _, rfl, a, _, rfl, s13.seq hS, fun l hl => ?_⟩
            rw [hcut]
            have s4 : Same H3 (upd H3 l (.lst (bv (ofLine b)))) := same_new hl
            refine fun p dx np nd ne => ⟨p, dx, .ref l, .non, rfl, upd_same, fun H5 h5 k5 => ⟨rfl, ?_⟩⟩
            have s5 : Same (upd H3 l (.lst (bv (ofLine b)))) H5 := Same.made np nd k5
            have etx : bv (ofLine b) = bv (lnTxt (.raw t)) := by
              rw [htx 124 (by rw [q3]; rfl)]
              show _ = bv (124 :: t.flatMap Fh.utf8)
              rw [hRt]
            refine out H5 p ((s13.trans s4).trans s5) ⟨(s13.trans s4).free np, dx, l, .non, h5, s13.free hl, by rw [← etx]; exact s5 _ _ upd_same, rfl⟩
    · rw [decide_eq_false hm]
      have hm2 : lk b ≠ 124 ∧ lk b ≠ 62 := by simpa using hm
      rw [lineM_no hm2.1 hm2.2] at out
      exact iteT (raise_n (K := K) out fun k z => ⟨_, rfl, z⟩)
end
end Sg

/-! SgLn4 -/
set_option Elab.async false
set_option linter.all false
set_option maxRecDepth 100000
set_option maxHeartbeats 4000000
namespace Sg
open PySem PySem.Spec PyProof.Rows L2
section
variable {P : Program} {w : World} {K : PySem.W.Frag} {mg : Str → Option Value} {base : Heap} {CF CR CL CW : Addr}
/-- a document's lines in a list -/
def LnsAt (CL CW : Addr) (K : PySem.W.Frag) (F : Addr → Prop) (H : Hp) (L a : Addr) (full : Fh.Bytes) (d : Fh.Document) : Prop :=
  F L ∧ ∃ xs : List Addr, H L = some (.lst (xs.map V.ref)) ∧ Paired (fun (x : Addr) (l : Fh.Line) => LnAt CL CW K F H x a full l) xs d
theorem LnsAt.keep {F : Addr → Prop} {H H' : Hp} {L a : Addr} {full : Fh.Bytes} {d : Fh.Document} (h : LnsAt CL CW K F H L a full d) (g : ∀ b o, F b → H b = some o → H' b = some o) (q : SqL K H a (bv full) → SqL K H' a (bv full)) : LnsAt CL CW K F H' L a full d := by
  obtain ⟨h1, xs, h2, h3⟩ := h
  exact ⟨h1, xs, g _ _ h1 h2, h3.mono fun _ _ z => z.keep g q⟩
theorem LnsAt.same {F : Addr → Prop} {H H' : Hp} {L a : Addr} {full : Fh.Bytes} {d : Fh.Document} (h : LnsAt CL CW K F H L a full d) (s : Same H H') : LnsAt CL CW K F H' L a full d := h.keep (fun c o _ e => s c o e) fun z => s.seq z
theorem LnsAt.imp {F G : Addr → Prop} {H : Hp} {L a : Addr} {full : Fh.Bytes} {d : Fh.Document} (h : LnsAt CL CW K F H L a full d) (g : ∀ b, F b → G b) : LnsAt CL CW K G H L a full d := by
  obtain ⟨h1, xs, h2, h3⟩ := h
  exact ⟨g _ h1, xs, h2, h3.mono fun _ _ z => z.imp g⟩
/-! ### read_document -/
def spRDoc (CF CL CW : Addr) (K : PySem.W.Frag) : Sp := fun vs H Q E => ∃ (a : Addr) (full : Fh.Bytes), vs = [.ref a] ∧ SqL K H a (bv full) ∧ full.length ≤ 262144 ∧
  match Fh.docRead full with
  | .error e => Bad CF E e.2
  | .ok d => d.length ≤ 16384 → ∀ (H' : Hp) (L : Addr), Same H H' → LnsAt CL CW K (Fresh H) H' L a full d → Q (.ref L) H'
theorem scRDoc : FnScope ["text", "lines", "first", "behind"] ["text"] (defScope sRDoc) := ⟨rfl, rfl, rfl, by decide +kernel, rfl, by decide +kernel, by decide +kernel⟩
theorem ok_rdoc {f fI : Addr} {fd fdI : FuncData} (F : Fun K "read_document" "read_document" sRDoc f fd) (TD : TxDc mg) (TN : TxN mg) (TF : TxF K mg CF) (GE : CallOk P w K mg base CX0 2 "line_end" ["text", "first"] (spLEnd K)) (GR : CallOk P w K mg base (L2N.CX P w) 8 "read_line" ["text", "first", "behind"] (spRLine CF CL CW K))
    (iF : PySem.W.findIn K (.ref CF) "__init__" = some (some (.ref fI))) (tF : PySem.W.typeIn K (.ref fI) = some (.type "function")) (FI : FnOk P w K mg base CX0 2 fI fdI ["self", "place"] (spFault CF)) (bI : Binds K fdI ["self", "place"] []) :
    FnOk P w K mg base (L2N.CX P w) 9 f fd ["text"] (spRDoc CF CL CW K) := by
  refine okN F scRDoc (fun vs H Q E h => ?_) (fun cdv A outer s H vs Q E hr h => ?_)
  · obtain ⟨a, full, rfl, _⟩ := h
    rfl
  · obtain ⟨a, full, rfl, hS, hfl, out⟩ := h
    have hr3 : Room 3 (A.deeper (envOfC (Str.ofString "read_document") (defScope sRDoc) s.heap.objs.size f cdv)) := hr.mono (by decide)
    have hr2 : Room 2 (A.deeper (envOfC (Str.ofString "read_document") (defScope sRDoc) s.heap.objs.size f cdv)) := hr.mono (by decide)
    refine ⟨_, pss_cons (ps_set (i := 1) scRDoc.nd rfl (Or.inl rfl) (pe_lst pa_nil))
      (pss_cons (ps_set (i := 2) scRDoc.nd rfl (Or.inl rfl) pe_int)
      (pss_cons (ps_while (passes_of rfl) (pt_cmpR op_lt (pv 2) (pe_callB call_len_seq (by rfl) TN.len PySem.boot_len (pa_cons (pv 0) pa_nil)) (nomark _))
        (pss_cons (ps_if (pt_cmpR op_eq (pe_callB call_len_seq (by rfl) TN.len PySem.boot_len (pa_cons (pv 1) pa_nil)) (pe_k TD.mostL (by rfl)) (nomark _))
          (pss_one (L2N.ps_raise rfl (L2N.takes_of rfl rfl rfl rfl) (pmk_oexN TF.ox iF tF FI hr3 bI .nil pass0 (by rfl) TF.g (pa_cons (pv 2) pa_nil)))) pss_nil)
        (pss_cons (ps_set (i := 3) scRDoc.nd rfl (Or.inl rfl) (pe_c GE hr2 (by rfl) pass0 (by exact (pa_cons (pv 0) (pa_cons (pv 2) pa_nil)))))
        (pss_cons (ps_expr (pe_bm PySem.F.plainAttrs_list PySem.F.slot_list_append PySem.F.type_list_append mt_append (pv 1) (pa_cons (pe_c GR hr (by rfl) (passN rfl rfl rfl rfl) (by exact (pa_cons (pv 0) (pa_cons (pv 2) (pa_cons (pv 3) pa_nil))))) pa_nil)))
        (pss_one (ps_set (i := 2) scRDoc.nd rfl (Or.inl rfl) (pe_op op_add (pv 3) pe_int)))))))
      (pss_one (ps_ret (pv 1))))), ?_⟩
    refine ⟨(by show 0 ≤ sizeLine; decide), fun L hL => ?_⟩
    refine ⟨fun m σ H' => ∃ (p g : Nat) (v : Option V) (d : Fh.Document) (xs : List Addr), σ = [some (.ref a), some (.ref L), some (.int (p : Nat)), v] ∧ Same H H' ∧ H' L = some (.lst (xs.map V.ref)) ∧
        Paired (fun (x : Addr) (l : Fh.Line) => LnAt CL CW K (fun c => Fresh H c ∧ c ≠ L) H' x a full l) xs d.reverse ∧ p ≤ full.length ∧ d.length ≤ 16384 ∧ (full.drop p).length ≤ g ∧ Fh.docFrom g p d.length d (full.drop p) = Fh.docRead full ∧ m = full.length - p,
      ⟨_, 0, full.length, none, [], [], rfl, same_new hL, upd_same, .nil, Nat.zero_le _, Nat.zero_le _, Nat.le_refl _, rfl, rfl⟩, ?_⟩
    rintro m σ H' ⟨p, g, v, d, xs, rfl, s1, hHL, hP, hp, hd, hg, heq, rfl⟩
    have hxl : xs.length = d.length := by rw [hP.length, List.length_reverse]
    refine ⟨_, rfl, _, rfl, a, _, rfl, .inl (s1.seq hS), _, _, rfl, rfl, _, rfl, tst (fun q => ?_) (fun q => ?_)⟩
    · rw [bv_len] at q
      have hlt : p < full.length := by omega
      have hne : full.drop p ≠ [] := fun z => by
        have := congrArg List.length z
        rw [List.length_drop] at this
        simp at this
        omega
      obtain ⟨g, rfl⟩ : ∃ g', g = g' + 1 := ⟨g - 1, by
        rw [List.length_drop] at hg
        omega⟩
      refine ⟨_, fun σ' H4 z => z, _, rfl, L, _, rfl, .inl (SqL.of hHL), rfl, _, rfl, ?_⟩
      rw [show decide (V.int ((xs.map V.ref).length : Nat) = V.int 16384) = decide ((xs.map V.ref).length = 16384) from decI (b := 16384)]
      refine tst (fun q2 => ?_) (fun q2 => ?_)
      · rw [List.length_map, hxl] at q2
        rw [docFrom_full hne (by omega)] at heq
        rw [← heq] at out
        exact raise_n (K := K) (n := p) out fun k z => ⟨_, rfl, z⟩
      · rw [List.length_map, hxl] at q2
        have hnl : ¬ 16384 ≤ d.length := by omega
        refine ⟨_, rfl, _, rfl, a, full, p, rfl, s1.seq hS, by omega, _, rfl, .inl ⟨rfl, _, SqL.of hHL⟩, _, rfl, _, rfl, _, rfl, a, full, p, rfl, s1.seq hS, hlt, hfl, ?_⟩
        cases hl : lineM p (full.drop p) with
        | error q =>
          obtain ⟨k, e⟩ := docFrom_bad (f := g) (d := d) hne hnl hl
          rw [e] at heq
          rw [← heq] at out
          exact out
        | ok l =>
          rw [docFrom_good hne hnl hl] at heq
          intro H2 x s2 hx
          have hL2 : H2 L = some (.lst (xs.map V.ref)) := s2 _ _ hHL
          refine ⟨L, _, _, rfl, rfl, hL2, ?_, ?_⟩
          · rw [List.length_map, hxl]
            have : (16385 : Nat) < sizeLine := by decide
            omega
          have s3 : Same H (upd H2 L (.lst (xs.map V.ref ++ [V.ref x]))) := fun c o e => by
            rw [upd_ne (ne_of_none e hL)]
            exact (s1.trans s2) c o e
          have kp : ∀ b o, (Fresh H b ∧ b ≠ L) → H2 b = some o → upd H2 L (.lst (xs.map V.ref ++ [V.ref x])) b = some o := fun b o z e => by
            rw [upd_ne z.2]
            exact e
          have hend := lineEnd_le full p (Nat.le_of_lt hlt)
          have hlf : (ofLine (full.drop p)).length + 1 ≤ (full.drop p).length := by
            have e := congrArg List.length (lineM_lf hl)
            rw [List.length_append, List.length_cons, lineM_text hl] at e
            have e2 : ((full.drop p).takeWhile fun (y : UInt8) => y != 10).length = (ofLine (full.drop p)).length := rfl
            omega
          have hdl := List.length_drop (l := full) (i := p)
          have hle2 : lineEnd full p = p + (ofLine (full.drop p)).length := rfl
          refine ⟨_, rfl, _, _, rfl, rfl, _, ?_, lineEnd full p + 1, g, _, l :: d, xs ++ [x], rfl, s3, ?_, ?_, by omega, by rw [List.length_cons]; omega, ?_, ?_, rfl⟩
          · omega
          · rw [upd_same, List.map_append]
            rfl
          · rw [List.reverse_cons]
            refine paired_snoc (hP.mono fun y r z => (z.same s2).keep kp fun _ => s3.seq hS) ?_
            refine (hx.imp fun c hc => ⟨s1.free hc, fun z => ?_⟩).keep kp fun _ => s3.seq hS
            rw [z] at hc
            rw [show H' L = none from hc] at hHL
            cases hHL
          · rw [List.length_drop] at hg ⊢
            omega
          · rw [← heq, List.drop_drop]
            show Fh.docFrom g (lineEnd full p + 1) ((l :: d).length) (l :: d) (full.drop (lineEnd full p + 1)) = Fh.docFrom g (p + (ofLine (full.drop p)).length + 1) (d.length + 1) (l :: d) (full.drop (p + ((ofLine (full.drop p)).length + 1)))
            rw [hle2, List.length_cons, Nat.add_assoc]
    · rw [bv_len] at q
      rw [List.drop_eq_nil_of_le (by omega), docFrom_nil] at heq
      rw [← heq] at out
      refine ⟨_, rfl, out (by rw [List.length_reverse]; exact hd) H' L s1 ⟨hL, xs, hHL, hP.mono fun y r z => z.imp fun c hc => hc.1⟩⟩
end
end Sg

/-! SgJn -/
set_option Elab.async false
set_option linter.all false
set_option maxRecDepth 100000
set_option maxHeartbeats 2000000
namespace Sg
open Fh
/-! ### paragraphs one behind another, each with its end behind it -/
def jn : List (List Nat) → List (Option Nat)
  | [] => []
  | cs :: ps => cs.map some ++ none :: jn ps
/-- at b a paragraph begins, its characters cs -/
def Bg : List (List Nat) → Nat → List Nat → Prop
  | [], _, _ => False
  | c :: ps, b, cs => (b = 0 ∧ cs = c) ∨ (c.length < b ∧ Bg ps (b - c.length - 1) cs)
theorem jn_len (c : List Nat) (ps : List (List Nat)) : (jn (c :: ps)).length = c.length + 1 + (jn ps).length := by
  show (c.map some ++ none :: jn ps).length = _
  rw [List.length_append, List.length_map, List.length_cons]
  omega
theorem jn_low (c : List Nat) (ps : List (List Nat)) {p : Nat} (h : p ≤ c.length) : (jn (c :: ps))[p]? = some c[p]? := by
  show (c.map some ++ none :: jn ps)[p]? = _
  by_cases q : p < c.length
  · rw [List.getElem?_append_left (by rw [List.length_map]; exact q), List.getElem?_map, List.getElem?_eq_getElem q]
    rfl
  · obtain rfl : p = c.length := by omega
    rw [List.getElem?_append_right (by rw [List.length_map]; exact Nat.le_refl _), List.length_map, Nat.sub_self, List.getElem?_eq_none (Nat.le_refl _)]
    rfl
theorem jn_high (c : List Nat) (ps : List (List Nat)) {p : Nat} (h : c.length < p) : (jn (c :: ps))[p]? = (jn ps)[p - c.length - 1]? := by
  show (c.map some ++ none :: jn ps)[p]? = _
  rw [List.getElem?_append_right (by rw [List.length_map]; omega), List.length_map]
  obtain ⟨k, hk⟩ : ∃ k, p - c.length = k + 1 := ⟨p - c.length - 1, by omega⟩
  rw [hk]
  rfl
/-- what stands in the whole at a place of one paragraph -/
theorem bg_get : ∀ {ps : List (List Nat)} {b : Nat} {cs : List Nat}, Bg ps b cs → ∀ o, o ≤ cs.length → (jn ps)[b + o]? = some cs[o]?
  | [], _, _, h, _, _ => h.elim
  | c :: ps, b, cs, h, o, ho => by
    rcases h with ⟨rfl, rfl⟩ | ⟨h1, h2⟩
    · rw [Nat.zero_add]
      exact jn_low _ _ ho
    · rw [jn_high c ps (by omega), show b + o - c.length - 1 = b - c.length - 1 + o by omega]
      exact bg_get h2 o ho
theorem bg_mem : ∀ {ps : List (List Nat)} {b : Nat} {cs : List Nat}, Bg ps b cs → cs ∈ ps ∧ b + cs.length < (jn ps).length
  | [], _, _, h => h.elim
  | c :: ps, b, cs, h => by
    rw [jn_len]
    rcases h with ⟨rfl, rfl⟩ | ⟨h1, h2⟩
    · exact ⟨List.mem_cons_self .., by omega⟩
    · obtain ⟨a1, a2⟩ := bg_mem h2
      exact ⟨List.mem_cons_of_mem _ a1, by omega⟩
theorem bg_uniq : ∀ {ps : List (List Nat)} {b b' : Nat} {cs cs' : List Nat} {o o' : Nat}, Bg ps b cs → Bg ps b' cs' → o ≤ cs.length → o' ≤ cs'.length → b + o = b' + o' → b = b' ∧ cs = cs' ∧ o = o'
  | [], _, _, _, _, _, _, h, _, _, _, _ => h.elim
  | c :: ps, b, b', cs, cs', o, o', h, h', ho, ho', e => by
    rcases h with ⟨rfl, rfl⟩ | ⟨h1, h2⟩
    · rcases h' with ⟨rfl, rfl⟩ | ⟨h1', h2'⟩
      · exact ⟨rfl, rfl, by omega⟩
      · omega
    · rcases h' with ⟨rfl, rfl⟩ | ⟨h1', h2'⟩
      · omega
      · obtain ⟨a1, a2, a3⟩ := bg_uniq h2 h2' ho ho' (by omega)
        exact ⟨by omega, a2, a3⟩
theorem bg_ex : ∀ {ps : List (List Nat)} {p : Nat}, p < (jn ps).length → ∃ b cs o, Bg ps b cs ∧ o ≤ cs.length ∧ p = b + o
  | [], p, h => absurd h (by simp [jn])
  | c :: ps, p, h => by
    rw [jn_len] at h
    by_cases q : p ≤ c.length
    · exact ⟨0, c, p, .inl ⟨rfl, rfl⟩, q, by omega⟩
    · obtain ⟨b, cs, o, h1, h2, h3⟩ := bg_ex (ps := ps) (p := p - c.length - 1) (by omega)
      exact ⟨b + c.length + 1, cs, o, .inr ⟨by omega, by rw [show b + c.length + 1 - c.length - 1 = b by omega]; exact h1⟩, h2, by omega⟩
theorem end_iff {ps : List (List Nat)} {p : Nat} : (jn ps)[p]? = some none ↔ ∃ b cs, Bg ps b cs ∧ p = b + cs.length := by
  constructor
  · intro h
    obtain ⟨b, cs, o, h1, h2, h3⟩ := bg_ex (List.getElem?_eq_some_iff.mp h).1
    subst h3
    rw [bg_get h1 o h2] at h
    have e := Option.some.inj h
    have : cs.length ≤ o := List.getElem?_eq_none_iff.mp e
    exact ⟨b, cs, h1, by omega⟩
  · rintro ⟨b, cs, h, rfl⟩
    rw [bg_get h _ (Nat.le_refl _), List.getElem?_eq_none (Nat.le_refl _)]
/-! ### what items match among them -/
def AtomOk (R : Rules) : Atom → Prop
  | .any => True
  | .cls n => ∃ c ∈ R.classes, c.1 = n
  | .lit l => l ≠ [] ∧ l.length ≤ 32
def mP (R : Rules) (a : Atom) (ps : List (List Nat)) (j : Nat) : Prop := match a with
  | .any => ∃ c, (jn ps)[j]? = some (some c)
  | .cls n => ∃ c, (jn ps)[j]? = some (some c) ∧ R.inClass n c = true
  | .lit l => j < (jn ps).length ∧ ∀ k c, l[k]? = some c → (jn ps)[j + k]? = some (some c)
def itP (R : Rules) (ps : List (List Nat)) (i : Item) (j k : Nat) : Prop := itR (mP R i.atom ps) i.atom.size i.least i.most j k
theorem mP_at {R : Rules} {a : Atom} {ps : List (List Nat)} {b : Nat} {cs : List Nat} {o : Nat} (h : Bg ps b cs) (ho : o ≤ cs.length) (ok : AtomOk R a) : mP R a ps (b + o) ↔ mAt R a cs o := by
  have g := bg_get h o ho
  cases a with
  | any =>
    rw [mAt_any]
    show (∃ c, (jn ps)[b + o]? = some (some c)) ↔ _
    rw [g]
    constructor
    · rintro ⟨c, e⟩
      exact (List.getElem?_eq_some_iff.mp (Option.some.inj e)).1
    · intro q
      exact ⟨cs[o], by rw [List.getElem?_eq_getElem q]⟩
  | cls n =>
    rw [mAt_cls]
    show (∃ c, (jn ps)[b + o]? = some (some c) ∧ R.inClass n c = true) ↔ _
    rw [g]
    exact ⟨fun ⟨c, e, q⟩ => ⟨c, Option.some.inj e, q⟩, fun ⟨c, e, q⟩ => ⟨c, by rw [e], q⟩⟩
  | lit l =>
    rw [mAt_lit, List.prefix_iff_getElem?]
    constructor
    · rintro ⟨_, h2⟩
      have all : ∀ k, k < l.length → o + k < cs.length ∧ cs[o + k]? = l[k]? := fun k => by
        induction k with
        | zero =>
          intro hk
          have e := h2 0 _ (List.getElem?_eq_getElem hk)
          rw [Nat.add_zero, g] at e
          have e := Option.some.inj e
          rw [Nat.add_zero, e, List.getElem?_eq_getElem hk]
          exact ⟨(List.getElem?_eq_some_iff.mp e).1, rfl⟩
        | succ k ih =>
          intro hk
          obtain ⟨i1, _⟩ := ih (by omega)
          have e := h2 (k + 1) _ (List.getElem?_eq_getElem hk)
          rw [Nat.add_assoc, bg_get h _ (by omega)] at e
          have e := Option.some.inj e
          rw [e, List.getElem?_eq_getElem hk]
          exact ⟨(List.getElem?_eq_some_iff.mp e).1, rfl⟩
      intro k hk
      rw [List.getElem?_drop, (all k hk).2, List.getElem?_eq_getElem hk]
    · intro h2
      refine ⟨by have := (bg_mem h).2; omega, fun k c hc => ?_⟩
      obtain ⟨hk, e⟩ := List.getElem?_eq_some_iff.mp hc
      have h3 := h2 k hk
      rw [List.getElem?_drop, e] at h3
      rw [Nat.add_assoc, bg_get h _ (by have := (List.getElem?_eq_some_iff.mp h3).1; omega), h3]
theorem ch_at {R : Rules} {a : Atom} {ps : List (List Nat)} {b : Nat} {cs : List Nat} (h : Bg ps b cs) (ok : AtomOk R a) : ∀ (t o q : Nat), o ≤ cs.length → (ch (mP R a ps) a.size t (b + o) q ↔ ∃ o', q = b + o' ∧ o' ≤ cs.length ∧ ch (mAt R a cs) a.size t o o')
  | 0, o, q, ho => ⟨fun e => ⟨o, (show b + o = q from e).symm, ho, rfl⟩, fun ⟨o', e, _, e2⟩ => by
    have : o = o' := e2
    rw [e, this]
    exact rfl⟩
  | t + 1, o, q, ho => by
    constructor
    · rintro ⟨h1, h2⟩
      have m := (mP_at h ho ok).mp h1
      obtain ⟨l1, _⟩ := mAt_len ho m
      rw [Nat.add_assoc] at h2
      obtain ⟨o', e1, e2, e3⟩ := (ch_at h ok t (o + a.size) q l1).mp h2
      exact ⟨o', e1, e2, m, e3⟩
    · rintro ⟨o', e1, e2, m, e3⟩
      obtain ⟨l1, _⟩ := mAt_len ho m
      refine ⟨(mP_at h ho ok).mpr m, ?_⟩
      rw [Nat.add_assoc]
      exact (ch_at h ok t (o + a.size) q l1).mpr ⟨o', e1, e2, e3⟩
theorem rch_at {R : Rules} {ps : List (List Nat)} {b : Nat} {cs : List Nat} (h : Bg ps b cs) : ∀ (l : List Item), (∀ i ∈ l, AtomOk R i.atom) → ∀ (o q : Nat), o ≤ cs.length → (rch (itP R ps) l (b + o) q ↔ ∃ o', q = b + o' ∧ o' ≤ cs.length ∧ rch (itM R cs) l o o')
  | [], _, o, q, ho => ⟨fun e => ⟨o, (show b + o = q from e).symm, ho, rfl⟩, fun ⟨o', e, _, e2⟩ => by
    have : o = o' := e2
    rw [e, this]
    exact rfl⟩
  | i :: l, ok, o, q, ho => by
    have oki := ok i (List.mem_cons_self ..)
    have okl := fun j hj => ok j (List.mem_cons_of_mem i hj)
    constructor
    · rintro ⟨x, ⟨t, t1, t2, hc⟩, hl⟩
      obtain ⟨o1, rfl, e2, e3⟩ := (ch_at h oki t o x ho).mp hc
      obtain ⟨o2, f1, f2, f3⟩ := (rch_at h l okl o1 q e2).mp hl
      exact ⟨o2, f1, f2, o1, ⟨t, t1, t2, e3⟩, f3⟩
    · rintro ⟨o2, f1, f2, o1, ⟨t, t1, t2, e3⟩, f3⟩
      have e2 := ch_le t o o1 ho e3
      exact ⟨b + o1, ⟨t, t1, t2, (ch_at h oki t o _ ho).mpr ⟨o1, rfl, e2, e3⟩⟩, (rch_at h l okl o1 q e2).mpr ⟨o2, f1, f2, f3⟩⟩
/-- the rule says something at the place p of the whole -/
def SaysP (R : Rules) (ps : List (List Nat)) (r : Rule) (p : Nat) : Prop :=
  (∃ j, j < (jn ps).length ∧ (r.start = true → ∃ cs, Bg ps j cs) ∧ rch (itP R ps) r.before j p) ∧ ∃ k, k < (jn ps).length ∧ (r.halt_ = true → (jn ps)[k]? = some none) ∧ rch (itP R ps) r.behind p k
theorem says_at {R : Rules} {ps : List (List Nat)} {r : Rule} {b : Nat} {cs : List Nat} {o : Nat} (h : Bg ps b cs) (ho : o ≤ cs.length) (ok1 : ∀ i ∈ r.before, AtomOk R i.atom) (ok2 : ∀ i ∈ r.behind, AtomOk R i.atom) :
    SaysP R ps r (b + o) ↔ Says R cs r o := by
  have hb := (bg_mem h).2
  constructor
  · rintro ⟨⟨j, h1, h2, h3⟩, k, h4, h5, h6⟩
    obtain ⟨b1, cs1, o1, e1, e2, rfl⟩ := bg_ex h1
    obtain ⟨o2, f1, f2, f3⟩ := (rch_at e1 r.before ok1 o1 _ e2).mp h3
    obtain ⟨rfl, rfl, rfl⟩ := bg_uniq h e1 ho f2 f1
    obtain ⟨o3, g1, g2, g3⟩ := (rch_at h r.behind ok2 o k ho).mp h6
    refine ⟨⟨o1, e2, fun z => ?_, f3⟩, o3, g2, fun z => ?_, g3⟩
    · obtain ⟨cs2, e3⟩ := h2 z
      exact (bg_uniq (o' := 0) e1 e3 e2 (Nat.zero_le _) (by omega)).2.2
    · have e3 := h5 z
      rw [g1, bg_get h _ g2] at e3
      have : cs.length ≤ o3 := List.getElem?_eq_none_iff.mp (Option.some.inj e3)
      omega
  · rintro ⟨⟨j, h1, h2, h3⟩, k, h4, h5, h6⟩
    refine ⟨⟨b + j, by omega, fun z => ⟨cs, by rw [h2 z]; exact h⟩, (rch_at h r.before ok1 j _ h1).mpr ⟨o, rfl, ho, h3⟩⟩, b + k, by omega, fun z => ?_, (rch_at h r.behind ok2 o _ ho).mpr ⟨k, rfl, h4, h6⟩⟩
    rw [h5 z, bg_get h _ (Nat.le_refl _), List.getElem?_eq_none (Nat.le_refl _)]
/-- the items' way keeps to the whole -/
theorem chP_lt {R : Rules} {a : Atom} {ps : List (List Nat)} (ok : AtomOk R a) {t j k : Nat} (hj : j < (jn ps).length) (h : ch (mP R a ps) a.size t j k) : k < (jn ps).length := by
  obtain ⟨b, cs, o, e1, e2, rfl⟩ := bg_ex hj
  obtain ⟨o', f1, f2, _⟩ := (ch_at e1 ok t o k e2).mp h
  have := (bg_mem e1).2
  omega
theorem itP_lt {R : Rules} {ps : List (List Nat)} {i : Item} (ok : AtomOk R i.atom) {j k : Nat} (hj : j < (jn ps).length) (h : itP R ps i j k) : k < (jn ps).length := by
  obtain ⟨t, _, _, hc⟩ := h
  exact chP_lt ok hj hc
theorem rchP_lt {R : Rules} {ps : List (List Nat)} : ∀ (l : List Item), (∀ i ∈ l, AtomOk R i.atom) → ∀ {j k : Nat}, j < (jn ps).length → rch (itP R ps) l j k → k < (jn ps).length
  | [], _, j, k, hj, h => by
    have : j = k := h
    omega
  | i :: l, ok, j, k, hj, ⟨x, h1, h2⟩ => rchP_lt l (fun y hy => ok y (List.mem_cons_of_mem _ hy)) (itP_lt (ok i (List.mem_cons_self ..)) hj h1) h2
theorem ch_up {A : Nat → Prop} {s : Nat} (t j k : Nat) (h : ch A s t j k) : j ≤ k := by
  have := ch_end A s t j k h
  have : 0 ≤ t * s := Nat.zero_le _
  omega
theorem rchP_up {R : Rules} {ps : List (List Nat)} : ∀ (l : List Item) {j k : Nat}, rch (itP R ps) l j k → j ≤ k
  | [], j, k, h => Nat.le_of_eq h
  | i :: l, j, k, ⟨x, ⟨t, _, _, h1⟩, h2⟩ => Nat.le_trans (ch_up t j x h1) (rchP_up l h2)
end Sg

/-! SgSt -/
set_option Elab.async false
set_option linter.all false
set_option maxRecDepth 100000
set_option maxHeartbeats 4000000
namespace Sg
open PySem PySem.Spec PyProof.Rows L2
structure TxG (K : PySem.W.Frag) (mg : Str → Option Value) : Prop where
  alone : ∃ t, mg "ALONE" = some (.int 46 t)
  bp : ∃ a, mg "BLANK_PIECE" = some (.ref a) ∧ ∀ H : Hp, SqT K H a [.int 0, .int 32]
  en : mg "enumerate" = none
section
variable {P : Program} {w : World} {K : PySem.W.Frag} {mg : Str → Option Value} {base : Heap} {CA CI CU CS CW : Addr}
/-! ### cut_behind -/
def spCutB (K : PySem.W.Frag) : Sp := fun vs H Q _ => ∃ (l : Addr) (p : Nat) (r : Fh.Row) (F : Addr → Prop), vs = [.ref l, .int (p : Nat)] ∧ RowAt F H l r ∧ p < r.length ∧ p + 1 + tailLen (r.drop (p + 1)) < r.length ∧ ∀ H' : Hp, Same H H' → Q (.int (cutB r p : Nat)) H'
theorem scCutB : FnScope ["pieces", "place", "cut"] ["pieces", "place"] (defScope sCutB) := ⟨rfl, rfl, rfl, by decide +kernel, rfl, by decide +kernel, by decide +kernel⟩
theorem ok_cutB {f : Addr} {fd : FuncData} (F : Fun K "cut_behind" "cut_behind" sCutB f fd) (TW : TxW mg) (TG : TxG K mg) : FnOk P w K mg base CX0 2 f fd ["pieces", "place"] (spCutB K) := by
  refine F.ok scCutB (fun vs H Q E h => ?_) (fun cdv A outer s H vs Q E hr h => ?_)
  · obtain ⟨l, p, r, G, rfl, _⟩ := h
    rfl
  · obtain ⟨l, p, r, G, rfl, ⟨_, ys, hy, hP⟩, hp, hlt, k⟩ := h
    refine ⟨_, pss_cons (ps_set (i := 2) scCutB.nd rfl (Or.inl rfl) (pe_op op_add (pv 1) pe_int))
      (pss_cons (ps_while PassesOwn.never (pt_cmpR op_in_seq (pe_ix ix_tup (pe_ix ix_list (pv 0) (pv 2) (fun _ _ => rfl)) pe_int (fun _ _ => rfl)) (pe_tup (pa_cons (pe_k TW.closes (by rfl)) (pa_cons (pe_k TG.alone (by rfl)) pa_nil))) (by rfl))
        (pss_one (ps_aug (i := 2) scCutB.nd rfl (Or.inl rfl) pe_int ip_add)))
      (pss_one (ps_ret (pv 2)))), ?_⟩
    refine ⟨_, rfl, _, _, rfl, rfl, ?_⟩
    refine ⟨fun m σ H' => ∃ j : Nat, σ = [some (.ref l), some (.int (p : Nat)), some (.int ((p + 1 + j : Nat) : Int))] ∧ Same H H' ∧ j ≤ tailLen (r.drop (p + 1)) ∧ m = tailLen (r.drop (p + 1)) - j, ⟨_, 0, rfl, Same.refl _, Nat.zero_le _, rfl⟩, ?_⟩
    rintro m σ H' ⟨j, rfl, s1, hj, rfl⟩
    have hlen : ys.length = r.length := hP.length
    have hjl : p + 1 + j < r.length := by omega
    have hyj : ys[p + 1 + j]? = some ys[p + 1 + j] := List.getElem?_eq_getElem (by omega)
    obtain ⟨pc, hpc, _, hY⟩ := paired_get hP hyj
    have hti := tail_at (r.drop (p + 1)) j pc (by rw [List.getElem?_drop]; exact hpc) hj
    have hpc2 : (ys.map V.ref)[p + 1 + j]? = some (V.ref ys[p + 1 + j]) := by rw [List.getElem?_map, hyj]; rfl
    refine ⟨_, rfl, _, rfl, l, _, _, _, rfl, rfl, SqL.of (s1 _ _ hy), atI_nat hpc2, _, _, _, _, rfl, rfl, .inl (.inl (s1 _ _ hY)), (show atI _ ((0 : Nat) : Int) = some (V.int (tagK pc : Nat)) from atI_nat rfl), ?_⟩
    refine ⟨(by show 2 ≤ sizeLine; decide), fun t ht => ⟨t, _, rfl, .inr (.inl (.inl upd_same)), rfl, rfl, _, rfl, ?_⟩⟩
    have s2 : Same H (upd H' t (.tup [V.int 45, V.int 46])) := s1.trans (same_new ht)
    have ein : inV (V.int (tagK pc : Nat)) [V.int 45, V.int 46] = decide (tagK pc ∈ [45, 46]) := inV_nat (tagK pc) [45, 46]
    show if inV (V.int (tagK pc : Nat)) [V.int 45, V.int 46] = true then _ else _
    rw [ein]
    by_cases q : j < tailLen (r.drop (p + 1))
    · have hm : tagK pc ∈ [45, 46] := by
        have := hti.mpr q
        simpa using this
      rw [decide_eq_true hm]
      refine iteT ⟨_, fun σ' H4 z => z, _, rfl, _, _, rfl, rfl, _, ?_, j + 1, rfl, s2, by omega, rfl⟩
      omega
    · have hm : ¬ tagK pc ∈ [45, 46] := fun z => q (hti.mp (by simpa using z))
      rw [decide_eq_false hm]
      have ej : j = tailLen (r.drop (p + 1)) := by omega
      refine iteF ⟨_, rfl, ?_⟩
      have := k _ s2
      unfold cutB at this
      rw [← ej] at this
      exact this
end
end Sg

/-! SgBit -/
set_option Elab.async false
set_option linter.all false
set_option maxRecDepth 100000
set_option maxHeartbeats 2000000
namespace Sg
open PySem PySem.Spec PyProof.Rows L2
/-! ### sets of places as numbers -/
def BS (S : Nat) (f : Nat → Prop) : Prop := ∀ p, S.testBit p = true ↔ f p
theorem BS.congr {S : Nat} {f g : Nat → Prop} (h : BS S f) (e : ∀ p, f p ↔ g p) : BS S g := fun p => (h p).trans (e p)
theorem bs_and {S T : Nat} {f g : Nat → Prop} (h : BS S f) (k : BS T g) : BS (S &&& T) (fun p => f p ∧ g p) := fun p => by
  rw [Nat.testBit_and, Bool.and_eq_true, h, k]
theorem bs_or {S T : Nat} {f g : Nat → Prop} (h : BS S f) (k : BS T g) : BS (S ||| T) (fun p => f p ∨ g p) := fun p => by
  rw [Nat.testBit_or, Bool.or_eq_true, h, k]
theorem bs_shl {S k : Nat} {f : Nat → Prop} (h : BS S f) : BS (S * 2 ^ k) (fun p => k ≤ p ∧ f (p - k)) := fun p => by
  rw [Nat.testBit_mul_two_pow, Bool.and_eq_true, decide_eq_true_eq, h]
theorem bs_shr {S k : Nat} {f : Nat → Prop} (h : BS S f) : BS (S / 2 ^ k) (fun p => f (p + k)) := fun p => by
  rw [Nat.testBit_div_two_pow, h]
theorem bs_mask (n : Nat) : BS (2 ^ n - 1) (fun p => p < n) := fun p => by
  rw [Nat.testBit_two_pow_sub_one, decide_eq_true_eq]
theorem bs_one (n : Nat) : BS (2 ^ n) (fun p => p = n) := fun p => by
  rw [Nat.testBit_two_pow, decide_eq_true_eq]
  exact ⟨fun e => e.symm, fun e => e.symm⟩
theorem bs_zero : BS 0 (fun _ => False) := fun p => by
  rw [Nat.zero_testBit]
  exact ⟨fun z => Bool.noConfusion z, fun z => z.elim⟩
theorem bs_lt {S n : Nat} {f : Nat → Prop} (h : BS S f) (k : ∀ p, f p → p < n) : S < 2 ^ n := by
  refine Nat.lt_pow_two_of_testBit _ fun p hp => ?_
  cases e : S.testBit p with
  | false => rfl
  | true => exact absurd (k p ((h p).mp e)) (by omega)
theorem sub_bits : ∀ (n u d : Nat), u < 2 ^ n → (∀ p, d.testBit p = true → u.testBit p = true) → d ≤ u ∧ ∀ p, (u - d).testBit p = (u.testBit p && !d.testBit p)
  | 0, u, d, hu, h => by
    have hu0 : u = 0 := by
      have : (2 : Nat) ^ 0 = 1 := rfl
      omega
    subst hu0
    have hd : d = 0 := Nat.eq_of_testBit_eq fun i => by
      rw [Nat.zero_testBit]
      cases e : d.testBit i with
      | false => rfl
      | true =>
        have := h i e
        rw [Nat.zero_testBit] at this
        cases this
    subst hd
    exact ⟨Nat.le_refl _, fun p => by simp⟩
  | n + 1, u, d, hu, h => by
    have h2 : u / 2 < 2 ^ n := by
      rw [Nat.pow_succ] at hu
      omega
    obtain ⟨i1, i2⟩ := sub_bits n (u / 2) (d / 2) h2 (fun p hp => by
      rw [← Nat.testBit_succ] at hp ⊢
      exact h _ hp)
    have h0 := h 0
    rw [Nat.testBit_zero, Nat.testBit_zero, decide_eq_true_eq, decide_eq_true_eq] at h0
    have hle : d ≤ u := by omega
    refine ⟨hle, fun p => ?_⟩
    cases p with
    | zero =>
      rw [Nat.testBit_zero, Nat.testBit_zero, Nat.testBit_zero]
      by_cases a : d % 2 = 1
      · have b := h0 a
        rw [decide_eq_false (by omega), decide_eq_true a]
        simp
      · rw [decide_eq_false a]
        by_cases b : u % 2 = 1
        · rw [decide_eq_true (by omega), decide_eq_true b]
          rfl
        · rw [decide_eq_false (by omega), decide_eq_false b]
          rfl
    | succ p =>
      rw [Nat.testBit_succ, Nat.testBit_succ, Nat.testBit_succ, show (u - d) / 2 = u / 2 - d / 2 by omega]
      exact i2 p
theorem bs_sub {u d : Nat} {f g : Nat → Prop} (h : BS u f) (k : BS d g) (hs : ∀ p, g p → f p) : d ≤ u ∧ BS (u - d) (fun p => f p ∧ ¬ g p) := by
  obtain ⟨a, b⟩ := sub_bits u u d (Nat.lt_two_pow_self) (fun p hp => (h p).mpr (hs p ((k p).mp hp)))
  refine ⟨a, fun p => ?_⟩
  rw [b, Bool.and_eq_true, h, Bool.not_eq_true', ← Bool.not_eq_true, k]
theorem bs_inner (n : Nat) : BS (2 ^ n - 1 - (if n = 0 then 0 else 1)) (fun p => 1 ≤ p ∧ p < n) := by
  by_cases hn : n = 0
  · rw [if_pos hn]
    subst hn
    refine (bs_mask 0).congr fun p => ?_
    omega
  · rw [if_neg hn]
    refine (bs_sub (bs_mask n) (bs_one 0) (fun p hp => by omega)).2.congr fun p => ?_
    omega
theorem sum_pows : ∀ (m s : Nat), ((List.range' s m).map fun p => (2 ^ p : Nat)).sum = 2 ^ (s + m) - 2 ^ s
  | 0, s => by simp
  | m + 1, s => by
    rw [List.range'_succ, List.map_cons, List.sum_cons, sum_pows m (s + 1)]
    have h1 : (2 : Nat) ^ (s + 1) ≤ 2 ^ (s + 1 + m) := Nat.pow_le_pow_right (by omega) (by omega)
    have h2 : (2 : Nat) ^ (s + 1) = 2 ^ s * 2 := Nat.pow_succ ..
    rw [show s + (m + 1) = s + 1 + m by omega]
    omega
theorem bs_eq {S T : Nat} {f : Nat → Prop} (h : BS S f) (k : BS T f) : S = T := Nat.eq_of_testBit_eq fun i => by
  cases e : S.testBit i with
  | true => exact ((k i).mpr ((h i).mp e)).symm
  | false =>
    cases e2 : T.testBit i with
    | false => rfl
    | true => rw [(h i).mpr ((k i).mp e2)] at e; cases e
theorem bit_one (S p : Nat) : (S / 2 ^ p) &&& 1 = if S.testBit p = true then 1 else 0 := by
  have e : S.testBit p = decide (S / 2 ^ p % 2 = 1) := by
    have := Nat.testBit_div_two_pow (n := p) S 0
    rw [Nat.zero_add, Nat.testBit_zero] at this
    exact this.symm
  rw [Nat.and_one_is_mod, e]
  by_cases q : S / 2 ^ p % 2 = 1
  · rw [decide_eq_true q, if_pos rfl, q]
  · rw [decide_eq_false q, if_neg (by simp)]
    omega
/-! ### the program's steps on such numbers -/
section
variable {X : Cx}
def rAndN : R2 := fun x y H Q => ∃ n m : Nat, x = .int (n : Nat) ∧ y = .int (m : Nat) ∧ Q (.int ((n &&& m : Nat) : Nat)) H
def rOrN : R2 := fun x y H Q => ∃ n m : Nat, x = .int (n : Nat) ∧ y = .int (m : Nat) ∧ Q (.int ((n ||| m : Nat) : Nat)) H
def rShlN : R2 := fun x y H Q => ∃ n k m : Nat, x = .int (n : Nat) ∧ y = .int (k : Nat) ∧ n < 2 ^ m ∧ m + k ≤ 134217728 ∧ Q (.int ((n * 2 ^ k : Nat) : Nat)) H
def rShrN : R2 := fun x y H Q => ∃ n k : Nat, x = .int (n : Nat) ∧ y = .int (k : Nat) ∧ Q (.int ((n / 2 ^ k : Nat) : Nat)) H
theorem op_andNat : OpR X (binaryOp .BitAnd) rAndN := by
  intro pins s σ H x y v u Q I rx ry h
  obtain ⟨n, m, rfl, rfl, q⟩ := h
  refine op_and pins s σ H _ _ v u Q I rx ry ⟨_, _, rfl, rfl, ?_⟩
  dsimp only
  rw [PySem.W.os_band]
  exact q
theorem op_orNat : OpR X (binaryOp .BitOr) rOrN := by
  intro pins s σ H x y v u Q I rx ry h
  obtain ⟨n, m, rfl, rfl, q⟩ := h
  refine op_or pins s σ H _ _ v u Q I rx ry ⟨_, _, rfl, rfl, ?_⟩
  dsimp only
  rw [Bits.bitOr_pp (Int.natCast_nonneg n) (Int.natCast_nonneg m), Int.toNat_natCast, Int.toNat_natCast]
  exact q
theorem op_shlNat : OpR X (binaryOp .LShift) rShlN := by
  intro pins s σ H x y v u Q I rx ry h
  obtain ⟨n, k, m, rfl, rfl, h1, h2, q⟩ := h
  refine op_shlN pins s σ H _ _ v u Q I rx ry ⟨_, k, rfl, rfl, shl_ok (n := m) (by omega) h2, ?_⟩
  rw [show ((n : Nat) : Int) * 2 ^ k = ((n * 2 ^ k : Nat) : Int) by rw [Int.natCast_mul, Int.natCast_pow]; rfl]
  exact q
theorem op_shrNat : OpR X (binaryOp .RShift) rShrN := by
  intro pins s σ H x y v u Q I rx ry h
  obtain ⟨n, k, rfl, rfl, q⟩ := h
  refine op_shrN pins s σ H _ _ v u Q I rx ry ⟨_, k, rfl, rfl, ?_⟩
  rw [show ((n : Nat) : Int) / 2 ^ k = ((n / 2 ^ k : Nat) : Int) by rw [Int.natCast_ediv, Int.natCast_pow]; rfl]
  exact q
end
end Sg

/-! SgPa -/
set_option Elab.async false
set_option linter.all false
set_option maxRecDepth 100000
set_option maxHeartbeats 4000000
namespace Sg
open PySem PySem.Spec PyProof.Rows L2
/-! ### in_ranges -/
def Rising : List (Nat × Nat) → Prop
  | [] => True
  | x :: l => x.1 ≤ x.2 ∧ (∀ y ∈ l, x.2 < y.1) ∧ Rising l
theorem rising_get : ∀ {l : List (Nat × Nat)}, Rising l → ∀ {i j : Nat} {x y : Nat × Nat}, l[i]? = some x → l[j]? = some y → x.1 ≤ x.2 ∧ (i < j → x.2 < y.1)
  | [], _, i, j, x, y, hx, _ => by simp at hx
  | z :: l, ⟨h1, h2, h3⟩, i, j, x, y, hx, hy => by
    cases i with
    | zero =>
      obtain rfl : z = x := Option.some.inj hx
      refine ⟨h1, fun hj => ?_⟩
      obtain ⟨j, rfl⟩ : ∃ k, j = k + 1 := ⟨j - 1, by omega⟩
      exact h2 y (List.mem_of_getElem? (by exact hy))
    | succ i =>
      cases j with
      | zero => exact ⟨(rising_get h3 (i := i) (j := i) hx hx).1, fun z => by omega⟩
      | succ j =>
        obtain ⟨a, b⟩ := rising_get h3 (i := i) (j := j) hx hy
        exact ⟨a, fun z => b (by omega)⟩
def inR (rs : List (Nat × Nat)) (v : Nat) : Bool := rs.any fun y => decide (y.1 ≤ v) && decide (v ≤ y.2)
theorem inR_at {rs : List (Nat × Nat)} {v f : Nat} (h : Rising rs) (h1 : ∀ j x, j < f → rs[j]? = some x → x.2 < v) (h2 : ∀ j x, f ≤ j → rs[j]? = some x → v ≤ x.2) :
    inR rs v = match rs[f]? with
      | some x => decide (x.1 ≤ v)
      | none => false := by
  have key : inR rs v = true ↔ ∃ x, rs[f]? = some x ∧ x.1 ≤ v := by
    unfold inR
    rw [List.any_eq_true]
    constructor
    · rintro ⟨x, hx, hq⟩
      rw [Bool.and_eq_true, decide_eq_true_eq, decide_eq_true_eq] at hq
      obtain ⟨j, hj⟩ := List.mem_iff_getElem?.mp hx
      by_cases q : j < f
      · have := h1 j x q hj
        omega
      · by_cases e : j = f
        · rw [e] at hj
          exact ⟨x, hj, hq.1⟩
        · have hjl : j < rs.length := (List.getElem?_eq_some_iff.mp hj).1
          have hf : rs[f]? = some rs[f] := List.getElem?_eq_getElem (by omega)
          have a := (rising_get h hf hj).2 (by omega)
          have b := h2 f _ (Nat.le_refl _) hf
          omega
    · rintro ⟨x, hx, hq⟩
      refine ⟨x, List.mem_of_getElem? hx, ?_⟩
      rw [Bool.and_eq_true, decide_eq_true_eq, decide_eq_true_eq]
      exact ⟨hq, h2 f x (Nat.le_refl _) hx⟩
  cases e : rs[f]? with
  | none =>
    cases z : inR rs v with
    | false => rfl
    | true =>
      obtain ⟨x, hx, _⟩ := key.mp z
      rw [e] at hx
      cases hx
  | some x =>
    show _ = decide (x.1 ≤ v)
    by_cases q : x.1 ≤ v
    · rw [decide_eq_true q]
      exact key.mpr ⟨x, e, q⟩
    · rw [decide_eq_false q]
      cases z : inR rs v with
      | false => rfl
      | true =>
        obtain ⟨y, hy, hq⟩ := key.mp z
        rw [e] at hy
        obtain rfl : x = y := Option.some.inj hy
        exact absurd hq q
theorem at_nat {xs : List V} {i : Nat} {v : V} (h : xs[i]? = some v) : atI xs ((i : Nat) : Int) = some v := by
  have hi := (List.getElem?_eq_some_iff.mp h).1
  have e : ixN xs.length ((i : Nat) : Int) = some i := by
    unfold ixN
    rw [if_pos (by omega), if_pos (by omega)]
    simp
  unfold atI
  rw [e]
  exact h
section
variable {P : Program} {w : World} {K : PySem.W.Frag} {mg : Str → Option Value} {base : Heap}
def spInR : Sp := fun vs H Q _ => ∃ (v : Nat) (a : Addr) (rs : List (Nat × Nat)) (F : Addr → Prop), vs = [.int (v : Nat), .ref a] ∧ RgL F H a rs ∧ Rising rs ∧ rs.length ≤ 65536 ∧ Q (.bl (inR rs v)) H
theorem scInR : FnScope ["number", "ranges", "first", "behind", "middle"] ["number", "ranges"] (defScope sInR) := ⟨rfl, rfl, rfl, by decide +kernel, rfl, by decide +kernel, by decide +kernel⟩
theorem ok_inR {f : Addr} {fd : FuncData} (F : Fun K "in_ranges" "in_ranges" sInR f fd) (TN : TxN mg) : FnOk P w K mg base CX0 2 f fd ["number", "ranges"] spInR := by
  refine F.ok scInR (fun vs H Q E h => ?_) (fun cdv A outer s H vs Q E hr h => ?_)
  · obtain ⟨v, a, rs, G, rfl, _⟩ := h
    rfl
  · obtain ⟨v, a, rs, G, rfl, ⟨_, ts, ha, hP⟩, hrs, hlen, k⟩ := h
    refine ⟨_, pss_cons (ps_set (i := 2) scInR.nd rfl (Or.inl rfl) pe_int)
      (pss_cons (ps_set (i := 3) scInR.nd rfl (Or.inl rfl) (pe_callB call_len_seq (by rfl) TN.len PySem.boot_len (pa_cons (pv 1) pa_nil)))
      (pss_cons (ps_while PassesOwn.never (pt_cmpR op_lt (pv 2) (pv 3) (nomark _))
        (pss_cons (ps_set (i := 4) scInR.nd rfl (Or.inl rfl) (pe_op op_fdiv (pe_op op_add (pv 2) (pv 3)) pe_int))
        (pss_one (ps_if (pt_cmpR op_lt (pe_ix ix_tup (pe_ix ix_list (pv 1) (pv 4) (fun _ _ => rfl)) pe_int (fun _ _ => rfl)) (pv 0) (nomark _))
          (pss_one (ps_set (i := 2) scInR.nd rfl (Or.inl rfl) (pe_op op_add (pv 4) pe_int)))
          (pss_one (ps_set (i := 3) scInR.nd rfl (Or.inl rfl) (pv 4)))))))
      (pss_one (ps_ret (pe_and (pe_cmpR op_lt (pv 2) (pe_callB call_len_seq (by rfl) TN.len PySem.boot_len (pa_cons (pv 1) pa_nil)) (nomark _))
        (pe_one (pe_cmpR op_le (pe_ix ix_tup (pe_ix ix_list (pv 1) (pv 2) (fun _ _ => rfl)) pe_int (fun _ _ => rfl)) (pv 0) (nomark _)))))))), ?_⟩
    have hl : (ts.map V.ref).length = rs.length := by rw [List.length_map, hP.length]
    refine ⟨_, rfl, a, _, rfl, .inl (SqL.of ha), ?_⟩
    rw [hl]
    refine ⟨fun m σ H' => ∃ (x y : Nat) (o : Option V), σ = [some (.int (v : Nat)), some (.ref a), some (.int (x : Nat)), some (.int (y : Nat)), o] ∧ H' = H ∧ x ≤ y ∧ y ≤ rs.length ∧ (∀ j z, j < x → rs[j]? = some z → z.2 < v) ∧ (∀ j z, y ≤ j → rs[j]? = some z → v ≤ z.2) ∧ m = y - x,
      ⟨_, 0, rs.length, none, rfl, rfl, Nat.zero_le _, Nat.le_refl _, fun j z hj => by omega, fun j z hj hz => by
        have := (List.getElem?_eq_some_iff.mp hz).1
        omega, rfl⟩, ?_⟩
    rintro m σ H' ⟨x, y, o, rfl, rfl, hxy, hy, h1, h2, rfl⟩
    have got : ∀ i, i < rs.length → ∃ t z, (ts.map V.ref)[i]? = some (.ref t) ∧ rs[i]? = some z ∧ H' t = some (.tup [.int (z.1 : Nat), .int (z.2 : Nat)]) := fun i hi => by
      have hti : i < ts.length := by rw [hP.length]; exact hi
      obtain ⟨z, hz, _, hT⟩ := paired_get hP (List.getElem?_eq_getElem hti)
      exact ⟨_, z, by rw [List.getElem?_map, List.getElem?_eq_getElem hti]; rfl, hz, hT⟩
    refine ⟨_, rfl, _, rfl, _, _, rfl, rfl, _, rfl, tst (fun q => ?_) (fun q => ?_)⟩
    · have q' : x < y := by omega
      obtain ⟨t, z, g1, g2, g3⟩ := got ((x + y) / 2) (by omega)
      refine ⟨fun σ' H4 => H4 = H' ∧ ∃ (x' y' : Nat) (o : Option V), σ' = [some (.int (v : Nat)), some (.ref a), some (.int (x' : Nat)), some (.int (y' : Nat)), o] ∧ x' ≤ y' ∧ y' ≤ rs.length ∧ (∀ j z, j < x' → rs[j]? = some z → z.2 < v) ∧ (∀ j z, y' ≤ j → rs[j]? = some z → v ≤ z.2) ∧ y' - x' < y - x, ?_, ?_⟩
      · rintro σ' H4 ⟨rfl, x', y', o', e1, e2, e3, e4, e5, e6⟩
        exact ⟨_, e6, x', y', o', e1, rfl, e2, e3, e4, e5, rfl⟩
      · refine ⟨_, rfl, _, rfl, _, _, rfl, rfl, _, _, rfl, rfl, ⟨by decide, by decide⟩, ?_⟩
        have em : ((x : Nat) + (y : Nat) : Int) / 2 = (((x + y) / 2 : Nat) : Int) := by omega
        dsimp only
        rw [em]
        refine ⟨_, rfl, _, rfl, a, _, _, .ref t, rfl, rfl, SqL.of ha, at_nat g1, t, _, 1, .int (z.2 : Nat), rfl, rfl, .inl (.inl g3), rfl, _, rfl, _, _, rfl, rfl, _, rfl, tst (fun qq => ?_) (fun qq => ?_)⟩
        · refine ⟨_, rfl, _, _, rfl, rfl, rfl, (x + y) / 2 + 1, y, _, rfl, by omega, hy, fun j u hj hu => ?_, h2, by omega⟩
          by_cases e : j = (x + y) / 2
          · rw [e, g2] at hu
            obtain rfl : z = u := Option.some.inj hu
            omega
          · have h3 := (rising_get hrs hu g2).2 (by omega)
            have h4 := (rising_get hrs g2 g2).1
            have h5 := (rising_get hrs hu hu).1
            omega
        · refine ⟨_, rfl, rfl, x, (x + y) / 2, _, rfl, by omega, by omega, h1, fun j u hj hu => ?_, by omega⟩
          by_cases e : j = (x + y) / 2
          · rw [e, g2] at hu
            obtain rfl : z = u := Option.some.inj hu
            omega
          · have h3 := (rising_get hrs g2 hu).2 (by omega)
            have h5 := (rising_get hrs hu hu).1
            omega
    · have e : x = y := by omega
      subst e
      have hin := inR_at hrs h1 h2
      refine ⟨_, rfl, _, rfl, a, _, rfl, .inl (SqL.of ha), _, _, rfl, rfl, _, rfl, ?_⟩
      rw [hl]
      refine tst (fun q2 => ?_) (fun q2 => ?_)
      · obtain ⟨t, z, g1, g2, g3⟩ := got x (by omega)
        refine ⟨_, rfl, _, rfl, a, _, _, .ref t, rfl, rfl, SqL.of ha, at_nat g1, t, _, 0, .int (z.1 : Nat), rfl, rfl, .inl (.inl g3), rfl, _, rfl, _, _, rfl, rfl, ?_⟩
        rw [g2] at hin
        rw [hin] at k
        dsimp only
        rw [show decide (((z.1 : Nat) : Int) ≤ (v : Nat)) = decide (z.1 ≤ v) from dec_eq (by omega)]
        exact k
      · rw [List.getElem?_eq_none (by omega)] at hin
        rw [hin] at k
        exact k
end
end Sg

/-! SgPa2 -/
set_option Elab.async false
set_option linter.all false
set_option maxRecDepth 100000
set_option maxHeartbeats 4000000
namespace Sg
open PySem PySem.Spec PyProof.Rows L2
structure TxA (K : PySem.W.Frag) (mg : Str → Option Value) (CA : Addr) : Prop where
  cl : Cls K CA
  n1 : NoAttr K CA "beginnings"
  n2 : NoAttr K CA "of_character"
  n3 : NoAttr K CA "of_class"
  n4 : NoAttr K CA "ends"
  n5 : NoAttr K CA "everywhere"
  en : mg "enumerate" = none
  range : mg "range" = none
  rev : mg "reversed" = none
/-- a Paragraphs' fields: the beginnings, the ends, all places; the dicts -/
def paF (B E W : Nat) (d1 d2 : Addr) : List (Str × V) := [("beginnings", .int (B : Nat)), ("ends", .int (E : Nat)), ("of_character", .ref d1), ("everywhere", .int (W : Nat)), ("of_class", .ref d2)]
theorem paF_1 (B E W : Nat) (d1 d2 : Addr) : (paF B E W d1 d2).lookup ("beginnings" : Str) = some (.int (B : Nat)) := lk_here
theorem paF_4 (B E W : Nat) (d1 d2 : Addr) : (paF B E W d1 d2).lookup ("ends" : Str) = some (.int (E : Nat)) := (lk_past (by decide +kernel)).trans lk_here
theorem paF_2 (B E W : Nat) (d1 d2 : Addr) : (paF B E W d1 d2).lookup ("of_character" : Str) = some (.ref d1) := (lk_past (by decide +kernel)).trans ((lk_past (by decide +kernel)).trans lk_here)
theorem paF_5 (B E W : Nat) (d1 d2 : Addr) : (paF B E W d1 d2).lookup ("everywhere" : Str) = some (.int (W : Nat)) := (lk_past (by decide +kernel)).trans ((lk_past (by decide +kernel)).trans ((lk_past (by decide +kernel)).trans lk_here))
theorem paF_3 (B E W : Nat) (d1 d2 : Addr) : (paF B E W d1 d2).lookup ("of_class" : Str) = some (.ref d2) := (lk_past (by decide +kernel)).trans ((lk_past (by decide +kernel)).trans ((lk_past (by decide +kernel)).trans ((lk_past (by decide +kernel)).trans lk_here)))
theorem paF_no (B E W : Nat) (d1 d2 : Addr) {m : Str} (h1 : (m == ("beginnings" : Str)) = false := by decide +kernel) (h4 : (m == ("ends" : Str)) = false := by decide +kernel) (h2 : (m == ("of_character" : Str)) = false := by decide +kernel) (h5 : (m == ("everywhere" : Str)) = false := by decide +kernel) (h3 : (m == ("of_class" : Str)) = false := by decide +kernel) : (paF B E W d1 d2).lookup m = none :=
  (lk_past h1).trans ((lk_past h4).trans ((lk_past h2).trans ((lk_past h5).trans ((lk_past h3).trans rfl))))
/-- places by characters -/
def ChD (kv : List (Key × V)) (cs : List (Option Nat)) : Prop := (∀ (c : Nat) (v : V), valV kv (Sum.inl ((c : Nat) : Int)) = some v → ∃ S : Nat, v = V.int (S : Nat) ∧ BS S (fun p => cs[p]? = some (some c))) ∧
  (∀ c : Nat, some c ∈ cs → (valV kv (Sum.inl ((c : Nat) : Int))).isSome = true) ∧ ∀ e ∈ kv, ∃ c : Nat, e.1 = Sum.inl ((c : Nat) : Int)
theorem val_mem {kv : List (Key × V)} {k : Key} {v : V} (h : (k, v) ∈ kv) : (valV kv k).isSome = true := by
  rw [← valV_any]
  exact List.any_eq_true.mpr ⟨_, h, by simp⟩
theorem ChD.get {kv : List (Key × V)} {cs : List (Option Nat)} (h : ChD kv cs) (c : Nat) : ∃ S : Nat, (valV kv (Sum.inl ((c : Nat) : Int))).getD (V.int 0) = V.int (S : Nat) ∧ BS S (fun p => cs[p]? = some (some c)) := by
  cases e : valV kv (Sum.inl ((c : Nat) : Int)) with
  | some v =>
    obtain ⟨S, rfl, hS⟩ := h.1 c v e
    exact ⟨S, rfl, hS⟩
  | none =>
    refine ⟨0, rfl, bs_zero.congr fun p => ⟨fun z => z.elim, fun z => ?_⟩⟩
    have := h.2.1 c (List.mem_of_getElem? z)
    rw [e] at this
    cases this
theorem upd_upd {H : Hp} {a : Addr} {o u : HO} : upd (upd H a o) a u = upd H a u := by
  funext b
  by_cases q : b = a
  · rw [q, upd_same, upd_same]
  · rw [upd_ne q, upd_ne q, upd_ne q]
theorem upd_id {H : Hp} {a : Addr} {u : HO} (h : H a = some u) : upd H a u = H := by
  funext b
  by_cases q : b = a
  · rw [q, upd_same, h]
  · rw [upd_ne q]
section
variable {P : Program} {w : World} {K : PySem.W.Frag} {mg : Str → Option Value} {base : Heap} {CA CI CU CS : Addr}
/-! ### where_in -/
def spWIn (CA : Addr) : Sp := fun vs H Q _ => ∃ (x a dx d1 : Addr) (fs : List (Str × V)) (kv : List (Key × V)) (cs : List (Option Nat)) (rs : List (Nat × Nat)) (F : Addr → Prop), vs = [.ref x, .ref a] ∧ H x = some (.ins CA dx fs) ∧ fs.lookup ("of_character" : Str) = some (.ref d1) ∧
  H d1 = some (.dK kv) ∧ ChD kv cs ∧ RgL F H a rs ∧ Rising rs ∧ rs.length ≤ 65536 ∧ ∀ S : Nat, BS S (fun p => ∃ c, cs[p]? = some (some c) ∧ inR rs c = true) → Q (.int (S : Nat)) H
theorem scWIn : FnScope ["self", "ranges", "places", "character"] ["self", "ranges"] (defScope sWIn) := ⟨rfl, rfl, rfl, by decide +kernel, rfl, by decide +kernel, by decide +kernel⟩
theorem ok_wIn {f : Addr} {fd : FuncData} (F : Fun K "where_in" "Paragraphs.where_in" sWIn f fd) (T : TxA K mg CA) (GI : CallOk P w K mg base CX0 2 "in_ranges" ["number", "ranges"] spInR) : FnOk P w K mg base CX0 3 f fd ["self", "ranges"] (spWIn CA) := by
  refine F.ok scWIn (fun vs H Q E h => ?_) (fun cdv A outer s H vs Q E hr h => ?_)
  · obtain ⟨x, a, dx, d1, fs, kv, cs, rs, G, rfl, _⟩ := h
    rfl
  · obtain ⟨x, a, dx, d1, fs, kv, cs, rs, G, rfl, hx, hlk, hd, hC, hR, hrs, hlen, k⟩ := h
    have hu := hu_of hr
    refine ⟨_, pss_cons (ps_set (i := 2) scWIn.nd rfl (Or.inl rfl) pe_int)
      (pss_cons (ps_lock (ps_for PassesOwn.never rfl (pi_keys (pe_fld (pv 0) rfl)) (pg_name (i := 3) scWIn.nd rfl (Or.inl rfl))
        (pss_one (ps_if (pt_val (pe_c GI hr (by rfl) pass0 (by exact (pa_cons (pv 3) (pa_cons (pv 1) pa_nil)))))
          (pss_one (ps_set (i := 2) scWIn.nd rfl (Or.inl rfl) (pe_op op_orNat (pv 2) (pe_dget hu (pe_fld (pv 0) rfl) (pv 3) (fun _ _ => rfl))))) pss_nil))))
      (pss_one (ps_ret (pv 2)))), ?_⟩
    refine ⟨d1, _, hd, trivial, fun od => ?_⟩
    have hxd : x ≠ d1 := ne_of hx hd (by intro z; cases z)
    have hx1 : upd H d1 (.frz od (.dK kv)) x = some (.ins CA dx fs) := by rw [upd_ne hxd]; exact hx
    obtain ⟨hFa, ts, ha, hP⟩ := hR
    have had : a ≠ d1 := ne_of ha hd (by intro z; cases z)
    have hR1 : RgL G (upd H d1 (.frz od (.dK kv))) a rs := ⟨hFa, ts, by rw [upd_ne had]; exact ha, hP.mono fun t r z => ⟨z.1, by
      rw [upd_ne (ne_of z.2 hd (by intro q; cases q))]
      exact z.2⟩⟩
    refine ⟨_, rfl, x, CA, dx, _, _, rfl, hx1, T.cl, T.n2, hlk, d1, od, rfl, .inl ⟨kv, upd_same, ?_⟩⟩
    refine for_it walk_keys (fun i σ H' => ∃ (S : Nat) (o : Option V), σ = [some (.ref x), some (.ref a), some (.int (S : Nat)), o] ∧ H' = upd H d1 (.frz od (.dK kv)) ∧ BS S (fun p => ∃ (j c : Nat), j < i ∧ (kv[j]?.map fun e => e.1) = some (Sum.inl ((c : Nat) : Int)) ∧ cs[p]? = some (some c) ∧ inR rs c = true))
      ⟨0, none, rfl, rfl, bs_zero.congr fun p => ⟨fun z => z.elim, fun ⟨j, c, z, _⟩ => by omega⟩⟩ (fun i σ H' _ hp => ?_) (fun i v σ H' H2 hi hp hy => ?_) (fun σ H' hp => ?_)
    · obtain ⟨S, o, rfl, rfl, _⟩ := hp
      exact upd_same
    · obtain ⟨S, o, rfl, rfl, hS⟩ := hp
      obtain ⟨rfl, ky, vy, hkv, rfl⟩ := hy
      obtain ⟨c, hc⟩ := hC.2.2 _ (List.mem_of_getElem? hkv)
      obtain rfl : ky = Sum.inl ((c : Nat) : Int) := hc
      refine ⟨_, rfl, _, rfl, c, a, rs, G, rfl, hR1, hrs, hlen, _, rfl, ?_⟩
      have hk : (kv[i]?.map fun e => e.1) = some (Sum.inl ((c : Nat) : Int)) := by rw [hkv]; rfl
      have hsm := val_mem (List.mem_of_getElem? hkv)
      cases hin : inR rs c with
      | false =>
        refine iteF ⟨S, _, rfl, rfl, hS.congr fun p => ⟨fun ⟨j, c', h1, h2⟩ => ⟨j, c', by omega, h2⟩, fun ⟨j, c', h1, h2, h3, h4⟩ => ?_⟩⟩
        by_cases e : j = i
        · rw [e, hk] at h2
          have : (c : Int) = c' := Sum.inl.inj (Option.some.inj h2)
          obtain rfl : c = c' := by omega
          rw [hin] at h4
          cases h4
        · exact ⟨j, c', by omega, h2, h3, h4⟩
      | true =>
        cases hv : valV kv (Sum.inl ((c : Nat) : Int)) with
        | none => rw [hv] at hsm; cases hsm
        | some v =>
          obtain ⟨T', rfl, hT⟩ := hC.1 c v hv
          refine iteT ⟨_, rfl, _, rfl, x, CA, dx, _, _, rfl, hx1, T.cl, T.n2, hlk, _, rfl, d1, _, rfl, .inl ⟨kv, Sum.inl ((c : Nat) : Int), .inr ⟨od, upd_same⟩, rfl, hv.symm⟩, S, T', rfl, rfl, S ||| T', _, rfl, rfl, ?_⟩
          refine (bs_or hS hT).congr fun p => ⟨fun h => ?_, fun ⟨j, c', h1, h2, h3, h4⟩ => ?_⟩
          · rcases h with ⟨j, c', h1, h2⟩ | h
            · exact ⟨j, c', by omega, h2⟩
            · exact ⟨i, c, by omega, hk, h, hin⟩
          · by_cases e : j = i
            · rw [e, hk] at h2
              have : (c : Int) = c' := Sum.inl.inj (Option.some.inj h2)
              obtain rfl : c = c' := by omega
              exact .inr h3
            · exact .inl ⟨j, c', by omega, h2, h3, h4⟩
    · obtain ⟨S, o, rfl, rfl, hS⟩ := hp
      refine ⟨upd_same, _, rfl, ?_⟩
      have e : upd (upd H d1 (.frz od (.dK kv))) d1 (.dK kv) = H := by rw [upd_upd, upd_id hd]
      rw [e]
      refine k S (hS.congr fun p => ⟨fun ⟨j, c, _, _, h3, h4⟩ => ⟨c, h3, h4⟩, fun ⟨c, h3, h4⟩ => ?_⟩)
      have hs := hC.2.1 c (List.mem_of_getElem? h3)
      cases hv : valV kv (Sum.inl ((c : Nat) : Int)) with
      | none => rw [hv] at hs; cases hs
      | some v =>
        have hm : ∃ e ∈ kv, e.1 = Sum.inl ((c : Nat) : Int) := by
          have := valV_in hv
          obtain ⟨e, he, h⟩ := List.mem_map.mp this
          exact ⟨e, he, h⟩
        obtain ⟨e, he, h⟩ := hm
        obtain ⟨j, hj⟩ := List.mem_iff_getElem?.mp he
        exact ⟨j, c, (List.getElem?_eq_some_iff.mp hj).1, by rw [hj, ← h]; rfl, h3, h4⟩
end
end Sg

/-! SgPa3 -/
set_option Elab.async false
set_option linter.all false
set_option maxRecDepth 100000
set_option maxHeartbeats 4000000
namespace Sg
open PySem PySem.Spec PyProof.Rows L2
/-- paragraphs in the heap: what is kept of them is true of ps and R -/
def PaAt (CA : Addr) (H : Hp) (x : Addr) (R : Fh.Rules) (ps : List (List Nat)) : Prop := ∃ (dx d1 d2 : Addr) (B E : Nat) (k1 k2 : List (Key × V)), H x = some (.ins CA dx (paF B E (2 ^ (jn ps).length - 1) d1 d2)) ∧ H d1 = some (.dK k1) ∧ ChD k1 (jn ps) ∧ H d2 = some (.dK k2) ∧
  (∀ (n : Nat), (∃ c ∈ R.classes, c.1 = n) → ∃ S : Nat, valV k2 (Sum.inl ((n : Nat) : Int)) = some (.int (S : Nat)) ∧ BS S (fun p => ∃ c, (jn ps)[p]? = some (some c) ∧ R.inClass n c = true)) ∧
  BS B (fun p => ∃ cs, Bg ps p cs) ∧ BS E (fun p => (jn ps)[p]? = some none)
theorem PaAt.same {CA : Addr} {H H' : Hp} {x : Addr} {R : Fh.Rules} {ps : List (List Nat)} (h : PaAt CA H x R ps) (s : Same H H') : PaAt CA H' x R ps := by
  obtain ⟨dx, d1, d2, B, E, k1, k2, h1, h2, h3, h4, h5⟩ := h
  exact ⟨dx, d1, d2, B, E, k1, k2, s _ _ h1, s _ _ h2, h3, s _ _ h4, h5⟩
section
variable {P : Program} {w : World} {K : PySem.W.Frag} {mg : Str → Option Value} {base : Heap} {CA CI CU CS : Addr}
/-! ### where_certain -/
def spWCer (CA : Addr) : Sp := fun vs H Q _ => ∃ (x a : Addr) (R : Fh.Rules) (ps : List (List Nat)) (l : List Nat), vs = [.ref x, .ref a] ∧ PaAt CA H x R ps ∧ H a = some (.lst (nvs l)) ∧ l.length ≤ 32 ∧
  ∀ (S : Nat) (H' : Hp), BS S (mP R (.lit l) ps) → Same H H' → Q (.int (S : Nat)) H'
theorem scWCer : FnScope ["self", "characters", "places", "offset", "character"] ["self", "characters"] (defScope sWCer) := ⟨rfl, rfl, rfl, by decide +kernel, rfl, by decide +kernel, by decide +kernel⟩
theorem ok_wCer {f : Addr} {fd : FuncData} (F : Fun K "where_certain" "Paragraphs.where_certain" sWCer f fd) (T : TxA K mg CA) : FnOk P w K mg base CX0 2 f fd ["self", "characters"] (spWCer CA) := by
  refine F.ok scWCer (fun vs H Q E h => ?_) (fun cdv A outer s H vs Q E hr h => ?_)
  · obtain ⟨x, a, R, ps, l, rfl, _⟩ := h
    rfl
  · obtain ⟨x, a, R, ps, l, rfl, ⟨dx, d1, d2, B, E0, k1, k2, hx, hd1, hC, hd2, hC2, _⟩, ha, hl, k⟩ := h
    have hu := hu_of hr
    refine ⟨_, pss_cons (ps_set (i := 2) scWCer.nd rfl (Or.inl rfl) (pe_fld (pv 0) rfl))
      (pss_cons (ps_for PassesOwn.never rfl (pi_enum (by rfl) T.en (pa_cons (pv 1) pa_nil)) (pg_tup rfl (pgs_cons (pg_name (i := 3) scWCer.nd rfl (Or.inl rfl)) (pgs_cons (pg_name (i := 4) scWCer.nd rfl (Or.inl rfl)) pgs_nil)))
        (pss_one (ps_set (i := 2) scWCer.nd rfl (Or.inl rfl) (pe_op op_andNat (pv 2) (pe_op op_shrNat (pe_dget2 hu (pe_fld (pv 0) rfl) (pv 4) pe_int ⟨rfl, rfl, rfl, rfl⟩) (pv 3))))))
      (pss_one (ps_ret (pv 2)))), ?_⟩
    refine ⟨_, rfl, x, CA, dx, _, _, rfl, hx, T.cl, T.n5, paF_5 _ _ _ _ _, ?_⟩
    refine ⟨_, rfl, a, nvs l, rfl, SqL.of ha, ?_⟩
    refine for_it (walk_enum (xs := nvs l)) (fun i σ H' => ∃ (S : Nat) (o1 o2 : Option V), σ = [some (.ref x), some (.ref a), some (.int (S : Nat)), o1, o2] ∧ Same H H' ∧ BS S (fun p => p < (jn ps).length ∧ ∀ j c, j < i → l[j]? = some c → (jn ps)[p + j]? = some (some c)))
      ⟨_, none, none, rfl, Same.refl H, (bs_mask _).congr fun p => ⟨fun h => ⟨h, fun j c hj => by omega⟩, fun h => h.1⟩⟩ (fun i σ H' _ hp => ?_) (fun i v σ H' H2 hi hp hy => ?_) (fun σ H' hp => ?_)
    · obtain ⟨S, o1, o2, rfl, hs, _⟩ := hp
      exact SqL.of (hs _ _ ha)
    · obtain ⟨S, o1, o2, rfl, hs, hS⟩ := hp
      obtain ⟨t, x1, y1, rfl, hT, rfl, e1, e2⟩ := hy
      obtain rfl : V.int (i : Nat) = x1 := Option.some.inj e1
      replace e2 : (l.map fun (n : Nat) => V.int (n : Nat))[i]? = some y1 := e2
      rw [List.getElem?_map] at e2
      cases hc : l[i]? with
      | none => rw [hc] at e2; cases e2
      | some c =>
        rw [hc] at e2
        obtain rfl : V.int (c : Nat) = y1 := Option.some.inj e2
        have hs2 : Same H (upd H' t (.tup [.int (i : Nat), .int (c : Nat)])) := hs.trans (same_new hT)
        obtain ⟨T', g1, g2⟩ := hC.get c
        refine ⟨t, _, rfl, .inl (.inl upd_same), rfl, _, _, rfl, _, _, rfl, rfl, ?_⟩
        refine ⟨_, rfl, _, rfl, x, CA, dx, _, _, rfl, hs2 _ _ hx, T.cl, T.n2, paF_2 _ _ _ _ _, d1, rfl, .inl ⟨k1, .inl (hs2 _ _ hd1)⟩, _, rfl, _, DGet.k (k := Sum.inl ((c : Nat) : Int)) (hs2 _ _ hd1), ?_⟩
        rw [g1]
        refine ⟨_, rfl, T', i, rfl, rfl, S, T' / 2 ^ i, rfl, rfl, S &&& (T' / 2 ^ i), _, _, rfl, hs2, (bs_and hS (bs_shr g2)).congr fun p => ⟨fun ⟨⟨h1, h2⟩, h3⟩ => ⟨h1, fun j c' hj hc' => ?_⟩, fun ⟨h1, h2⟩ => ⟨⟨h1, fun j c' hj => h2 j c' (by omega)⟩, h2 i c (by omega) hc⟩⟩⟩
        by_cases e : j = i
        · rw [e, hc] at hc'
          obtain rfl : c = c' := Option.some.inj hc'
          rw [e]
          exact h3
        · exact h2 j c' (by omega) hc'
    · obtain ⟨S, o1, o2, rfl, hs, hS⟩ := hp
      rw [nvs_len] at hS
      exact ⟨_, rfl, k S H' (hS.congr fun p => ⟨fun ⟨h1, h2⟩ => ⟨h1, fun j c hc => h2 j c (List.getElem?_eq_some_iff.mp hc).1 hc⟩, fun ⟨h1, h2⟩ => ⟨h1, fun j c _ hc => h2 j c hc⟩⟩) hs⟩
end
end Sg

/-! SgPa4 -/
set_option Elab.async false
set_option linter.all false
set_option maxRecDepth 100000
set_option maxHeartbeats 4000000
namespace Sg
open PySem PySem.Spec PyProof.Rows L2
theorem itF_1 (k a l m : V) : (itF k a l m).lookup ("kind" : Str) = some k := lk_here
theorem itF_2 (k a l m : V) : (itF k a l m).lookup ("atom" : Str) = some a := (lk_past (by decide +kernel)).trans lk_here
theorem itF_3 (k a l m : V) : (itF k a l m).lookup ("least" : Str) = some l := (lk_past (by decide +kernel)).trans ((lk_past (by decide +kernel)).trans lk_here)
theorem itF_4 (k a l m : V) : (itF k a l m).lookup ("most" : Str) = some m := (lk_past (by decide +kernel)).trans ((lk_past (by decide +kernel)).trans ((lk_past (by decide +kernel)).trans lk_here))
section
variable {P : Program} {w : World} {K : PySem.W.Frag} {mg : Str → Option Value} {base : Heap} {CA CI CU CS : Addr}
/-! ### where_atom -/
def spWAtom (CA CI : Addr) : Sp := fun vs H Q _ => ∃ (x it : Addr) (R : Fh.Rules) (ps : List (List Nat)) (i : Fh.Item) (F : Addr → Prop), vs = [.ref x, .ref it] ∧ PaAt CA H x R ps ∧ ItAt CI F H it i ∧ AtomOk R i.atom ∧
  ∀ (S : Nat) (H' : Hp) (t : Addr), BS S (mP R i.atom ps) → Same H H' → H' t = some (.tup [.int (S : Nat), .int (i.atom.size : Nat)]) → Q (.ref t) H'
theorem scWAtom : FnScope ["self", "item"] ["self", "item"] (defScope sWAtom) := ⟨rfl, rfl, rfl, by decide +kernel, rfl, by decide +kernel, by decide +kernel⟩
theorem ok_wAtom {f : Addr} {fd : FuncData} (F : Fun K "where_atom" "Paragraphs.where_atom" sWAtom f fd) (T : TxA K mg CA) (TI : TxI K CI) (TN : TxN mg) (GC : MethOk P w K mg base CX0 2 CA "where_certain" ["self", "characters"] (spWCer CA)) :
    FnOk P w K mg base CX0 3 f fd ["self", "item"] (spWAtom CA CI) := by
  refine F.ok scWAtom (fun vs H Q E h => ?_) (fun cdv A outer s H vs Q E hr h => ?_)
  · obtain ⟨x, it, R, ps, i, G, rfl, _⟩ := h
    rfl
  · obtain ⟨x, it, R, ps, i, G, rfl, hPa, ⟨hG, dxi, ki, vi, hit, hat⟩, hok, k⟩ := h
    obtain ⟨dx, d1, d2, B, E0, k1, k2, hx, hd1, hC, hd2, hC2, hB, hE⟩ := id hPa
    have hu := hu_of hr
    refine ⟨_, pss_cons (ps_if (pt_cmpR op_eq (pe_fld (pv 1) rfl) (pe_k TN.anyK (by rfl)) (nomark _)) (pss_one (ps_ret (pe_tup (pa_cons (pe_op op_subN (pe_fld (pv 0) rfl) (pe_fld (pv 0) rfl)) (pa_cons pe_int pa_nil))))) pss_nil)
      (pss_cons (ps_if (pt_cmpR op_eq (pe_fld (pv 1) rfl) (pe_k TN.certain (by rfl)) (nomark _)) (pss_one (ps_ret (pe_tup (pa_cons (pe_m GC T.cl hr pass0 (pv 0) (by exact (pa_cons (pe_fld (pv 1) rfl) pa_nil))) (pa_cons (pe_callB call_len_seq (by rfl) TN.len PySem.boot_len (pa_cons (pe_fld (pv 1) rfl) pa_nil)) pa_nil))))) pss_nil)
      (pss_one (ps_ret (pe_tup (pa_cons (pe_dget hu (pe_fld (pv 0) rfl) (pe_fld (pv 1) rfl) (fun _ _ => rfl)) (pa_cons pe_int pa_nil)))))), ?_⟩
    have two : 2 ≤ sizeLine := by decide
    cases ea : i.atom with
    | any =>
      rw [ea] at hat k
      obtain ⟨rfl, rfl⟩ := hat
      refine ⟨_, rfl, it, CI, dxi, _, _, rfl, hit, TI.cl, TI.n1, itF_1 _ _ _ _, rfl, _, rfl, iteT ?_⟩
      have hall : BS (2 ^ (jn ps).length - 1) (fun p => p < (jn ps).length) := bs_mask _
      obtain ⟨hle, hsub⟩ := bs_sub hall hE (fun p hp => (List.getElem?_eq_some_iff.mp hp).1)
      refine ⟨_, rfl, x, CA, dx, _, _, rfl, hx, T.cl, T.n5, paF_5 _ _ _ _ _, _, rfl, x, CA, dx, _, _, rfl, hx, T.cl, T.n4, paF_4 _ _ _ _ _, _, _, rfl, rfl, hle, two, fun t ht => ?_⟩
      refine k _ _ t (hsub.congr fun p => ?_) (same_new ht) upd_same
      show _ ↔ ∃ c, (jn ps)[p]? = some (some c)
      constructor
      · rintro ⟨h1, h2⟩
        cases e : (jn ps)[p]? with
        | none => exact absurd (List.getElem?_eq_none_iff.mp e) (by omega)
        | some o =>
          cases o with
          | none => exact absurd e h2
          | some c => exact ⟨c, rfl⟩
      · rintro ⟨c, e⟩
        exact ⟨(List.getElem?_eq_some_iff.mp e).1, fun z => by rw [e] at z; cases z⟩
    | lit l =>
      rw [ea] at hat k hok
      obtain ⟨rfl, la, rfl, hla, hL⟩ := hat
      obtain ⟨hl0, hl32⟩ := hok
      refine ⟨_, rfl, it, CI, dxi, _, _, rfl, hit, TI.cl, TI.n1, itF_1 _ _ _ _, rfl, _, rfl, iteF ?_⟩
      refine ⟨_, rfl, it, CI, dxi, _, _, rfl, hit, TI.cl, TI.n1, itF_1 _ _ _ _, rfl, _, rfl, iteT ?_⟩
      refine ⟨_, rfl, x, dx, _, rfl, hx, paF_no _ _ _ _ _, _, rfl, it, CI, dxi, _, _, rfl, hit, TI.cl, TI.n2, itF_2 _ _ _ _, x, la, R, ps, l, rfl, hPa, hL, hl32, fun S H1 hS s1 => ?_⟩
      refine ⟨_, rfl, it, CI, dxi, _, _, rfl, s1 _ _ hit, TI.cl, TI.n2, itF_2 _ _ _ _, la, _, rfl, .inl (SqL.of (s1 _ _ hL)), two, fun t ht => ?_⟩
      refine k S _ t hS (s1.trans (same_new ht)) ?_
      rw [upd_same, nvs_len]
      rfl
    | cls n =>
      rw [ea] at hat k hok
      obtain ⟨rfl, rfl⟩ := hat
      obtain ⟨S, hv, hS⟩ := hC2 n hok
      refine ⟨_, rfl, it, CI, dxi, _, _, rfl, hit, TI.cl, TI.n1, itF_1 _ _ _ _, rfl, _, rfl, iteF ?_⟩
      refine ⟨_, rfl, it, CI, dxi, _, _, rfl, hit, TI.cl, TI.n1, itF_1 _ _ _ _, rfl, _, rfl, iteF ?_⟩
      refine ⟨_, rfl, x, CA, dx, _, _, rfl, hx, T.cl, T.n3, paF_3 _ _ _ _ _, _, rfl, it, CI, dxi, _, _, rfl, hit, TI.cl, TI.n2, itF_2 _ _ _ _, d2, _, rfl, .inl ⟨k2, Sum.inl ((n : Nat) : Int), .inl hd2, rfl, hv.symm⟩, two, fun t ht => ?_⟩
      exact k S _ t hS (same_new ht) upd_same
end
end Sg

/-! SgPa5 -/
set_option Elab.async false
set_option linter.all false
set_option maxRecDepth 100000
set_option maxHeartbeats 4000000
namespace Sg
open PySem PySem.Spec PyProof.Rows L2
theorem size_le {R : Fh.Rules} {a : Fh.Atom} (h : AtomOk R a) : a.size ≤ 32 := by
  cases a with
  | any => show 1 ≤ 32; omega
  | cls n => show 1 ≤ 32; omega
  | lit l => exact h.2
section
variable {P : Program} {w : World} {K : PySem.W.Frag} {mg : Str → Option Value} {base : Heap} {CA CI CU CS : Addr}
/-! ### go_forward, go_back -/
def spGo (CA CI : Addr) (fwd : Bool) : Sp := fun vs H Q _ => ∃ (x it : Addr) (R : Fh.Rules) (ps : List (List Nat)) (i : Fh.Item) (F : Addr → Prop) (S : Nat) (f : Nat → Prop), vs = [.ref x, .int (S : Nat), .ref it] ∧ PaAt CA H x R ps ∧ (jn ps).length ≤ 300000 ∧ ItAt CI F H it i ∧ AtomOk R i.atom ∧ i.most ≤ 32 ∧
  BS S f ∧ (∀ p, f p → p < (jn ps).length) ∧ ∀ (S' : Nat) (H' : Hp), BS S' (fun q => ∃ p, f p ∧ if fwd = true then itP R ps i p q else itP R ps i q p) → Same H H' → Q (.int (S' : Nat)) H'
theorem scFwd : FnScope ["self", "places", "item", "atom_places", "length", "reached", "times"] ["self", "places", "item"] (defScope sFwd) := ⟨rfl, rfl, rfl, by decide +kernel, rfl, by decide +kernel, by decide +kernel⟩
theorem ok_fwd {f : Addr} {fd : FuncData} (F : Fun K "go_forward" "Paragraphs.go_forward" sFwd f fd) (T : TxA K mg CA) (TI : TxI K CI) (GA : MethOk P w K mg base CX0 3 CA "where_atom" ["self", "item"] (spWAtom CA CI)) :
    FnOk P w K mg base CX0 4 f fd ["self", "places", "item"] (spGo CA CI true) := by
  refine F.ok scFwd (fun vs H Q E h => ?_) (fun cdv A outer s H vs Q E hr h => ?_)
  · obtain ⟨x, it, R, ps, i, G, S, g, rfl, _⟩ := h
    rfl
  · obtain ⟨x, it, R, ps, i, G, S, g, rfl, hPa, hn, hIt, hok, hm, hS, hg, k⟩ := h
    obtain ⟨hG, dxi, ki, vi, hit, hat⟩ := id hIt
    obtain ⟨dx, d1, d2, B, E0, k1, k2, hx, _⟩ := id hPa
    refine ⟨_, pss_cons (ps_asg (pe_m GA T.cl hr pass0 (pv 0) (by exact (pa_cons (pv 2) pa_nil))) (pg_tup rfl (pgs_cons (pg_name (i := 3) scFwd.nd rfl (Or.inl rfl)) (pgs_cons (pg_name (i := 4) scFwd.nd rfl (Or.inl rfl)) pgs_nil))))
      (pss_cons (ps_set (i := 5) scFwd.nd rfl (Or.inl rfl) pe_int)
      (pss_cons (ps_for PassesOwn.never rfl (pi_range1 (by rfl) T.range (pa_cons (pe_op op_add (pe_fld (pv 2) rfl) pe_int) pa_nil)) (pg_name (i := 6) scFwd.nd rfl (Or.inl rfl))
        (pss_cons (ps_if (pt_cmpR op_ge (pv 6) (pe_fld (pv 2) rfl) (nomark _)) (pss_one (ps_set (i := 5) scFwd.nd rfl (Or.inl rfl) (pe_op op_orNat (pv 5) (pv 1)))) pss_nil)
        (pss_one (ps_set (i := 1) scFwd.nd rfl (Or.inl rfl) (pe_op op_shlNat (pe_op op_andNat (pv 1) (pv 3)) (pv 4))))))
      (pss_one (ps_ret (pv 5))))), ?_⟩
    refine ⟨_, rfl, x, dx, _, rfl, hx, paF_no _ _ _ _ _, _, rfl, x, it, R, ps, i, G, rfl, hPa, hIt, hok, fun A' H1 t hA s1 ht => ?_⟩
    refine ⟨t, _, rfl, .inl (.inl ht), rfl, _, _, rfl, _, _, rfl, rfl, ?_⟩
    refine ⟨_, rfl, it, CI, dxi, _, _, rfl, s1 _ _ hit, TI.cl, TI.n4, itF_4 _ _ _ _, _, _, rfl, rfl, _, rfl, by omega, by omega, ?_⟩
    rw [show (((i.most : Nat) : Int) + 1).toNat = i.most + 1 by omega]
    refine for_range (lo := 0) (n := i.most + 1) (fun j σ H' => ∃ (U T' : Nat) (o : Option V), σ = [some (.ref x), some (.int (U : Nat)), some (.ref it), some (.int (A' : Nat)), some (.int (i.atom.size : Nat)), some (.int (T' : Nat)), o] ∧ H' = H1 ∧
        BS U (fun q => ∃ p, g p ∧ ch (mP R i.atom ps) i.atom.size j p q) ∧ BS T' (fun q => ∃ p, g p ∧ ∃ m, i.least ≤ m ∧ m < j ∧ ch (mP R i.atom ps) i.atom.size m p q))
      ⟨S, 0, none, rfl, rfl, hS.congr fun q => ⟨fun h => ⟨q, h, rfl⟩, fun ⟨p, h, e⟩ => by
        have : p = q := e
        rw [← this]
        exact h⟩, bs_zero.congr fun q => ⟨fun h => h.elim, fun ⟨p, h, m, _, z, _⟩ => by omega⟩⟩ (fun j σ H' hj hp => ?_) (fun σ H' hp => ?_)
    · obtain ⟨U, T', o, rfl, rfl, hU, hT⟩ := hp
      have hlt : U < 2 ^ (jn ps).length := bs_lt hU fun q ⟨p, h1, h2⟩ => chP_lt hok (hg p h1) h2
      have hsz := size_le hok
      have next : BS ((U &&& A') * 2 ^ i.atom.size) (fun q => ∃ p, g p ∧ ch (mP R i.atom ps) i.atom.size (j + 1) p q) := (bs_shl (bs_and hU hA)).congr fun q => by
        constructor
        · rintro ⟨h1, ⟨p, h2, h3⟩, h4⟩
          exact ⟨p, h2, (ch_snoc _ _ _ _ _).mpr ⟨_, h3, h4, by omega⟩⟩
        · rintro ⟨p, h2, h3⟩
          obtain ⟨y, h4, h5, h6⟩ := (ch_snoc _ _ _ _ _).mp h3
          have : q - i.atom.size = y := by omega
          exact ⟨by omega, ⟨p, h2, by rw [this]; exact h4⟩, by rw [this]; exact h5⟩
      have hand : U &&& A' < 2 ^ (jn ps).length := Nat.lt_of_le_of_lt Nat.and_le_left hlt
      refine ⟨_, rfl, _, rfl, it, CI, dxi, _, _, rfl, s1 _ _ hit, TI.cl, TI.n3, itF_3 _ _ _ _, _, _, rfl, rfl, _, rfl, tst (fun q => ?_) (fun q => ?_)⟩
      · refine ⟨_, rfl, _, rfl, T', U, rfl, rfl, ?_⟩
        refine ⟨_, rfl, _, rfl, U, A', rfl, rfl, _, rfl, U &&& A', i.atom.size, (jn ps).length, rfl, rfl, hand, by omega, _, T' ||| U, _, rfl, rfl, next, (bs_or hT hU).congr fun y => ⟨fun h => ?_, fun ⟨p, h1, m, h2, h3, h4⟩ => ?_⟩⟩
        · rcases h with ⟨p, h1, m, h2, h3, h4⟩ | ⟨p, h1, h2⟩
          · exact ⟨p, h1, m, h2, by omega, h4⟩
          · exact ⟨p, h1, j, by omega, by omega, h2⟩
        · by_cases e : m = j
          · rw [e] at h4
            exact .inr ⟨p, h1, h4⟩
          · exact .inl ⟨p, h1, m, h2, by omega, h4⟩
      · refine ⟨_, rfl, _, rfl, U, A', rfl, rfl, _, rfl, U &&& A', i.atom.size, (jn ps).length, rfl, rfl, hand, by omega, _, T', _, rfl, rfl, next, hT.congr fun y => ⟨fun ⟨p, h1, m, h2, h3, h4⟩ => ⟨p, h1, m, h2, by omega, h4⟩, fun ⟨p, h1, m, h2, h3, h4⟩ => ⟨p, h1, m, h2, by omega, h4⟩⟩⟩
    · obtain ⟨U, T', o, rfl, rfl, hU, hT⟩ := hp
      exact ⟨_, rfl, k T' H' (hT.congr fun q => ⟨fun ⟨p, h1, m, h2, h3, h4⟩ => ⟨p, h1, by rw [if_pos rfl]; exact ⟨m, h2, by omega, h4⟩⟩, fun ⟨p, h1, h2⟩ => by
        rw [if_pos rfl] at h2
        obtain ⟨m, a1, a2, a3⟩ := h2
        exact ⟨p, h1, m, a1, by omega, a3⟩⟩) s1⟩
theorem scBack : FnScope ["self", "places", "item", "atom_places", "length", "reached", "times"] ["self", "places", "item"] (defScope sBack) := ⟨rfl, rfl, rfl, by decide +kernel, rfl, by decide +kernel, by decide +kernel⟩
theorem ok_back {f : Addr} {fd : FuncData} (F : Fun K "go_back" "Paragraphs.go_back" sBack f fd) (T : TxA K mg CA) (TI : TxI K CI) (GA : MethOk P w K mg base CX0 3 CA "where_atom" ["self", "item"] (spWAtom CA CI)) :
    FnOk P w K mg base CX0 4 f fd ["self", "places", "item"] (spGo CA CI false) := by
  refine F.ok scBack (fun vs H Q E h => ?_) (fun cdv A outer s H vs Q E hr h => ?_)
  · obtain ⟨x, it, R, ps, i, G, S, g, rfl, _⟩ := h
    rfl
  · obtain ⟨x, it, R, ps, i, G, S, g, rfl, hPa, hn, hIt, hok, hm, hS, hg, k⟩ := h
    obtain ⟨hG, dxi, ki, vi, hit, hat⟩ := id hIt
    obtain ⟨dx, d1, d2, B, E0, k1, k2, hx, _⟩ := id hPa
    refine ⟨_, pss_cons (ps_asg (pe_m GA T.cl hr pass0 (pv 0) (by exact (pa_cons (pv 2) pa_nil))) (pg_tup rfl (pgs_cons (pg_name (i := 3) scBack.nd rfl (Or.inl rfl)) (pgs_cons (pg_name (i := 4) scBack.nd rfl (Or.inl rfl)) pgs_nil))))
      (pss_cons (ps_set (i := 5) scBack.nd rfl (Or.inl rfl) pe_int)
      (pss_cons (ps_for PassesOwn.never rfl (pi_range1 (by rfl) T.range (pa_cons (pe_op op_add (pe_fld (pv 2) rfl) pe_int) pa_nil)) (pg_name (i := 6) scBack.nd rfl (Or.inl rfl))
        (pss_cons (ps_if (pt_cmpR op_ge (pv 6) (pe_fld (pv 2) rfl) (nomark _)) (pss_one (ps_set (i := 5) scBack.nd rfl (Or.inl rfl) (pe_op op_orNat (pv 5) (pv 1)))) pss_nil)
        (pss_one (ps_set (i := 1) scBack.nd rfl (Or.inl rfl) (pe_op op_andNat (pe_op op_shrNat (pv 1) (pv 4)) (pv 3))))))
      (pss_one (ps_ret (pv 5))))), ?_⟩
    refine ⟨_, rfl, x, dx, _, rfl, hx, paF_no _ _ _ _ _, _, rfl, x, it, R, ps, i, G, rfl, hPa, hIt, hok, fun A' H1 t hA s1 ht => ?_⟩
    refine ⟨t, _, rfl, .inl (.inl ht), rfl, _, _, rfl, _, _, rfl, rfl, ?_⟩
    refine ⟨_, rfl, it, CI, dxi, _, _, rfl, s1 _ _ hit, TI.cl, TI.n4, itF_4 _ _ _ _, _, _, rfl, rfl, _, rfl, by omega, by omega, ?_⟩
    rw [show (((i.most : Nat) : Int) + 1).toNat = i.most + 1 by omega]
    refine for_range (lo := 0) (n := i.most + 1) (fun j σ H' => ∃ (U T' : Nat) (o : Option V), σ = [some (.ref x), some (.int (U : Nat)), some (.ref it), some (.int (A' : Nat)), some (.int (i.atom.size : Nat)), some (.int (T' : Nat)), o] ∧ H' = H1 ∧
        BS U (fun q => ∃ p, g p ∧ ch (mP R i.atom ps) i.atom.size j q p) ∧ BS T' (fun q => ∃ p, g p ∧ ∃ m, i.least ≤ m ∧ m < j ∧ ch (mP R i.atom ps) i.atom.size m q p))
      ⟨S, 0, none, rfl, rfl, hS.congr fun q => ⟨fun h => ⟨q, h, rfl⟩, fun ⟨p, h, e⟩ => by
        have : q = p := e
        rw [this]
        exact h⟩, bs_zero.congr fun q => ⟨fun h => h.elim, fun ⟨p, h, m, _, z, _⟩ => by omega⟩⟩ (fun j σ H' hj hp => ?_) (fun σ H' hp => ?_)
    · obtain ⟨U, T', o, rfl, rfl, hU, hT⟩ := hp
      have next : BS ((U / 2 ^ i.atom.size) &&& A') (fun q => ∃ p, g p ∧ ch (mP R i.atom ps) i.atom.size (j + 1) q p) := (bs_and (bs_shr hU) hA).congr fun q => by
        constructor
        · rintro ⟨⟨p, h2, h3⟩, h4⟩
          exact ⟨p, h2, h4, h3⟩
        · rintro ⟨p, h2, h4, h3⟩
          exact ⟨⟨p, h2, h3⟩, h4⟩
      refine ⟨_, rfl, _, rfl, it, CI, dxi, _, _, rfl, s1 _ _ hit, TI.cl, TI.n3, itF_3 _ _ _ _, _, _, rfl, rfl, _, rfl, tst (fun q => ?_) (fun q => ?_)⟩
      · refine ⟨_, rfl, _, rfl, T', U, rfl, rfl, ?_⟩
        refine ⟨_, rfl, _, rfl, U, i.atom.size, rfl, rfl, _, rfl, U / 2 ^ i.atom.size, A', rfl, rfl, _, T' ||| U, _, rfl, rfl, next, (bs_or hT hU).congr fun y => ⟨fun h => ?_, fun ⟨p, h1, m, h2, h3, h4⟩ => ?_⟩⟩
        · rcases h with ⟨p, h1, m, h2, h3, h4⟩ | ⟨p, h1, h2⟩
          · exact ⟨p, h1, m, h2, by omega, h4⟩
          · exact ⟨p, h1, j, by omega, by omega, h2⟩
        · by_cases e : m = j
          · rw [e] at h4
            exact .inr ⟨p, h1, h4⟩
          · exact .inl ⟨p, h1, m, h2, by omega, h4⟩
      · refine ⟨_, rfl, _, rfl, U, i.atom.size, rfl, rfl, _, rfl, U / 2 ^ i.atom.size, A', rfl, rfl, _, T', _, rfl, rfl, next, hT.congr fun y => ⟨fun ⟨p, h1, m, h2, h3, h4⟩ => ⟨p, h1, m, h2, by omega, h4⟩, fun ⟨p, h1, m, h2, h3, h4⟩ => ⟨p, h1, m, h2, by omega, h4⟩⟩⟩
    · obtain ⟨U, T', o, rfl, rfl, hU, hT⟩ := hp
      exact ⟨_, rfl, k T' H' (hT.congr fun q => ⟨fun ⟨p, h1, m, h2, h3, h4⟩ => ⟨p, h1, by rw [if_neg (by simp)]; exact ⟨m, h2, by omega, h4⟩⟩, fun ⟨p, h1, h2⟩ => by
        rw [if_neg (by simp)] at h2
        obtain ⟨m, a1, a2, a3⟩ := h2
        exact ⟨p, h1, m, a1, by omega, a3⟩⟩) s1⟩
end
end Sg

/-! SgPa6 -/
set_option Elab.async false
set_option linter.all false
set_option maxRecDepth 100000
set_option maxHeartbeats 4000000
namespace Sg
open PySem PySem.Spec PyProof.Rows L2
def RuleOk (R : Fh.Rules) (r : Fh.Rule) : Prop := (∀ i ∈ r.before, AtomOk R i.atom ∧ i.most ≤ 32) ∧ ∀ i ∈ r.behind, AtomOk R i.atom ∧ i.most ≤ 32
theorem ruF_1 (c s b h e : V) : (ruF c s b h e).lookup ("cuts" : Str) = some c := lk_here
theorem ruF_2 (c s b h e : V) : (ruF c s b h e).lookup ("from_beginning" : Str) = some s := (lk_past (by decide +kernel)).trans lk_here
theorem ruF_3 (c s b h e : V) : (ruF c s b h e).lookup ("before" : Str) = some b := (lk_past (by decide +kernel)).trans ((lk_past (by decide +kernel)).trans lk_here)
theorem ruF_4 (c s b h e : V) : (ruF c s b h e).lookup ("behind" : Str) = some h := (lk_past (by decide +kernel)).trans ((lk_past (by decide +kernel)).trans ((lk_past (by decide +kernel)).trans lk_here))
theorem ruF_5 (c s b h e : V) : (ruF c s b h e).lookup ("to_end" : Str) = some e := (lk_past (by decide +kernel)).trans ((lk_past (by decide +kernel)).trans ((lk_past (by decide +kernel)).trans ((lk_past (by decide +kernel)).trans lk_here)))
section
variable {P : Program} {w : World} {K : PySem.W.Frag} {mg : Str → Option Value} {base : Heap} {CA CI CU CS : Addr}
/-! ### where_says -/
def spSays (CA CI CU : Addr) : Sp := fun vs H Q _ => ∃ (x ru : Addr) (R : Fh.Rules) (ps : List (List Nat)) (r : Fh.Rule) (F : Addr → Prop), vs = [.ref x, .ref ru] ∧ PaAt CA H x R ps ∧ (jn ps).length ≤ 300000 ∧ RuAt CU CI F H ru r ∧ RuleOk R r ∧
  ∀ (S : Nat) (H' : Hp), BS S (SaysP R ps r) → Same H H' → Q (.int (S : Nat)) H'
theorem scSays : FnScope ["self", "rule", "before", "item", "behind"] ["self", "rule"] (defScope sSays) := ⟨rfl, rfl, rfl, by decide +kernel, rfl, by decide +kernel, by decide +kernel⟩
theorem ok_says {f : Addr} {fd : FuncData} (F : Fun K "where_says" "Paragraphs.where_says" sSays f fd) (T : TxA K mg CA) (TU : TxU K CU) (GF : MethOk P w K mg base CX0 4 CA "go_forward" ["self", "places", "item"] (spGo CA CI true))
    (GB : MethOk P w K mg base CX0 4 CA "go_back" ["self", "places", "item"] (spGo CA CI false)) : FnOk P w K mg base CX0 5 f fd ["self", "rule"] (spSays CA CI CU) := by
  refine F.ok scSays (fun vs H Q E h => ?_) (fun cdv A outer s H vs Q E hr h => ?_)
  · obtain ⟨x, ru, R, ps, r, G, rfl, _⟩ := h
    rfl
  · obtain ⟨x, ru, R, ps, r, G, rfl, hPa, hn, hRu, ⟨ok1, ok2⟩, k⟩ := h
    obtain ⟨dx, d1, d2, B0, E0, k1, k2, hx, _, _, _, _, hB0, hE0⟩ := id hPa
    obtain ⟨hG, dxr, lb, lh, hru, ⟨hlbF, xb, hlb, hPb⟩, hlhF, xh, hlh, hPh⟩ := id hRu
    have okb : ∀ i ∈ r.before, AtomOk R i.atom := fun i hi => (ok1 i hi).1
    have okh : ∀ i ∈ r.behind, AtomOk R i.atom := fun i hi => (ok2 i hi).1
    refine ⟨_, pss_cons (ps_set (i := 2) scSays.nd rfl (Or.inl rfl) (pe_ifExp (pt_val (pe_fld (pv 1) rfl)) (pe_fld (pv 0) rfl) (pe_fld (pv 0) rfl)))
      (pss_cons (ps_for PassesOwn.never rfl (pi_list (pe_fld (pv 1) rfl)) (pg_name (i := 3) scSays.nd rfl (Or.inl rfl))
        (pss_one (ps_set (i := 2) scSays.nd rfl (Or.inl rfl) (pe_m GF T.cl hr pass0 (pv 0) (by exact (pa_cons (pv 2) (pa_cons (pv 3) pa_nil)))))))
      (pss_cons (ps_set (i := 4) scSays.nd rfl (Or.inl rfl) (pe_ifExp (pt_val (pe_fld (pv 1) rfl)) (pe_fld (pv 0) rfl) (pe_fld (pv 0) rfl)))
      (pss_cons (ps_for PassesOwn.never rfl (pi_reversed (by rfl) T.rev (pa_cons (pe_fld (pv 1) rfl) pa_nil)) (pg_name (i := 3) scSays.nd rfl (Or.inl rfl))
        (pss_one (ps_set (i := 4) scSays.nd rfl (Or.inl rfl) (pe_m GB T.cl hr pass0 (pv 0) (by exact (pa_cons (pv 4) (pa_cons (pv 3) pa_nil)))))))
      (pss_one (ps_ret (pe_op op_andNat (pv 2) (pv 4))))))), ?_⟩
    have hE : BS (2 ^ (jn ps).length - 1) (fun p => p < (jn ps).length) := bs_mask _
    refine ⟨_, rfl, ru, CU, dxr, _, _, rfl, hru, TU.cl, TU.n2, ruF_2 _ _ _ _ _, _, rfl, ?_⟩
    -- behind the first place
    have rest : ∀ B : Nat, BS B (fun p => p < (jn ps).length ∧ (r.start = true → ∃ cs, Bg ps p cs)) → (tSeq (tFor (iList K (tFld K (tVar 1) "before")) (gName 3) (tAsg (tMeth CA "go_forward" (spGo CA CI true) [] L2.E0 (tVar 0) (tCons (tVar 2) (tCons (tVar 3) tNil))) (gName 2)))
        (tSeq (tAsg (tIf (tB (tFld K (tVar 1) "to_end")) (tFld K (tVar 0) "ends") (tFld K (tVar 0) "everywhere")) (gName 4))
        (tSeq (tFor (iRev K (tCons (tFld K (tVar 1) "behind") tNil)) (gName 3) (tAsg (tMeth CA "go_back" (spGo CA CI false) [] L2.E0 (tVar 0) (tCons (tVar 4) (tCons (tVar 3) tNil))) (gName 4)))
          (tRet (tOp rAndN (tVar 2) (tVar 4)))))) { nx := fun _ H' => Q .non H', rt := Q } [some (.ref x), some (.ref ru), some (.int (B : Nat)), none, none] H := by
      intro B hB
      refine ⟨_, rfl, ru, CU, dxr, _, _, rfl, hru, TU.cl, TU.n3, ruF_3 _ _ _ _ _, lb, rfl, ⟨_, SqL.of hlb⟩, ?_⟩
      refine for_list (xs := xb.map V.ref) (fun j σ H' => ∃ (U : Nat) (o : Option V), σ = [some (.ref x), some (.ref ru), some (.int (U : Nat)), o, none] ∧ Same H H' ∧
          BS U (fun q => ∃ p, p < (jn ps).length ∧ (r.start = true → ∃ cs, Bg ps p cs) ∧ rch (itP R ps) (r.before.take j) p q))
        ⟨B, none, rfl, Same.refl H, hB.congr fun q => ⟨fun ⟨h1, h2⟩ => ⟨q, h1, h2, rfl⟩, fun ⟨p, h1, h2, e⟩ => by
          have : p = q := e
          rw [← this]
          exact ⟨h1, h2⟩⟩⟩ (fun j σ H' _ hp => ?_) (fun j v σ H' hv hp => ?_) (fun σ H' hp => ?_)
      · obtain ⟨U, o, rfl, s1, _⟩ := hp
        exact SqL.of (s1 _ _ hlb)
      · obtain ⟨U, o, rfl, s1, hU⟩ := hp
        rw [List.getElem?_map] at hv
        cases hy : xb[j]? with
        | none => rw [hy] at hv; cases hv
        | some y =>
          rw [hy] at hv
          obtain rfl : V.ref y = v := Option.some.inj hv
          obtain ⟨i, hi, hIt⟩ := paired_get hPb hy
          obtain ⟨a1, a2⟩ := ok1 i (List.mem_of_getElem? hi)
          refine ⟨_, rfl, x, dx, _, rfl, s1 _ _ hx, paF_no _ _ _ _ _, _, rfl, _, rfl, x, y, R, ps, i, G, U, _, rfl, hPa.same s1, hn, hIt.keep fun c o _ e => s1 c o e, a1, a2, hU, fun p ⟨p0, b1, _, b3⟩ => rchP_lt _ (fun z hz => okb z (List.mem_of_mem_take hz)) b1 b3, fun U' H2 hU' s2 => ?_⟩
          refine ⟨U', _, rfl, s1.trans s2, hU'.congr fun q => ?_⟩
          have ht : r.before.take (j + 1) = r.before.take j ++ [i] := by
            rw [List.take_add_one, hi]
            rfl
          rw [ht]
          constructor
          · rintro ⟨p, ⟨p0, b1, b2, b3⟩, h4⟩
            rw [if_pos rfl] at h4
            exact ⟨p0, b1, b2, (rch_snoc _ _ _ _ _).mpr ⟨p, b3, h4⟩⟩
          · rintro ⟨p0, b1, b2, b3⟩
            obtain ⟨p, c1, c2⟩ := (rch_snoc _ _ _ _ _).mp b3
            exact ⟨p, ⟨p0, b1, b2, c1⟩, by rw [if_pos rfl]; exact c2⟩
      · obtain ⟨U, o, rfl, s1, hU⟩ := hp
        have hU' : BS U (fun q => ∃ p, p < (jn ps).length ∧ (r.start = true → ∃ cs, Bg ps p cs) ∧ rch (itP R ps) r.before p q) := by
          rw [List.length_map, hPb.length, List.take_length] at hU
          exact hU
        -- the second loop
        have last : ∀ B : Nat, BS B (fun p => p < (jn ps).length ∧ (r.halt_ = true → (jn ps)[p]? = some none)) → (tSeq (tFor (iRev K (tCons (tFld K (tVar 1) "behind") tNil)) (gName 3) (tAsg (tMeth CA "go_back" (spGo CA CI false) [] L2.E0 (tVar 0) (tCons (tVar 4) (tCons (tVar 3) tNil))) (gName 4)))
            (tRet (tOp rAndN (tVar 2) (tVar 4)))) { nx := fun _ H' => Q .non H', rt := Q } [some (.ref x), some (.ref ru), some (.int (U : Nat)), o, some (.int (B : Nat))] H' := by
          intro B2 hB2
          refine ⟨_, rfl, ru, CU, dxr, _, _, rfl, s1 _ _ hru, TU.cl, TU.n4, ruF_4 _ _ _ _ _, lh, xh.map V.ref, rfl, SqL.of (s1 _ _ hlh), ?_⟩
          have hlen : (xh.map V.ref).length = r.behind.length := by rw [List.length_map, hPh.length]
          refine for_it (walk_rev (xs := xh.map V.ref)) (fun j σ H2 => ∃ (W : Nat) (o : Option V), σ = [some (.ref x), some (.ref ru), some (.int (U : Nat)), o, some (.int (W : Nat))] ∧ Same H H2 ∧
              BS W (fun p => ∃ q, q < (jn ps).length ∧ (r.halt_ = true → (jn ps)[q]? = some none) ∧ rch (itP R ps) (r.behind.drop (r.behind.length - j)) p q))
            ⟨B2, o, rfl, s1, hB2.congr fun p => ?_⟩ (fun j σ H2 _ hp => ?_) (fun j v σ H2 H3 hj hp hy => ?_) (fun σ H2 hp => ?_)
          · rw [Nat.sub_zero, List.drop_length]
            exact ⟨fun ⟨h1, h2⟩ => ⟨p, h1, h2, rfl⟩, fun ⟨q, h1, h2, e⟩ => by
              have : p = q := e
              rw [this]
              exact ⟨h1, h2⟩⟩
          · obtain ⟨W, o', rfl, s2, _⟩ := hp
            exact SqL.of (s2 _ _ hlh)
          · obtain ⟨W, o', rfl, s2, hW⟩ := hp
            obtain ⟨rfl, hy⟩ := hy
            rw [List.getElem?_map, hlen] at hy
            rw [hlen] at hj
            cases hyy : xh[r.behind.length - 1 - j]? with
            | none => rw [hyy] at hy; cases hy
            | some y =>
              rw [hyy] at hy
              obtain rfl : V.ref y = v := Option.some.inj hy
              obtain ⟨i, hi, hIt⟩ := paired_get hPh hyy
              obtain ⟨a1, a2⟩ := ok2 i (List.mem_of_getElem? hi)
              have hd : r.behind.drop (r.behind.length - (j + 1)) = i :: r.behind.drop (r.behind.length - j) := by
                have e1 : r.behind.length - (j + 1) = r.behind.length - 1 - j := by omega
                have hlt : r.behind.length - 1 - j < r.behind.length := by omega
                rw [e1, List.drop_eq_getElem_cons hlt, (List.getElem?_eq_some_iff.mp hi).2, show r.behind.length - 1 - j + 1 = r.behind.length - j by omega]
              refine ⟨_, rfl, x, dx, _, rfl, s2 _ _ hx, paF_no _ _ _ _ _, _, rfl, _, rfl, x, y, R, ps, i, G, W, _, rfl, hPa.same s2, hn, hIt.keep fun c o _ e => s2 c o e, a1, a2, hW, fun p ⟨q0, b1, _, b3⟩ => Nat.lt_of_le_of_lt (rchP_up _ b3) b1, fun U' H3 hU' s3 => ?_⟩
              refine ⟨U', _, rfl, s2.trans s3, hU'.congr fun p => ?_⟩
              rw [hd]
              constructor
              · rintro ⟨y', ⟨q0, b1, b2, b3⟩, h4⟩
                rw [if_neg (by simp)] at h4
                exact ⟨q0, b1, b2, y', h4, b3⟩
              · rintro ⟨q0, b1, b2, y', h4, b3⟩
                exact ⟨y', ⟨q0, b1, b2, b3⟩, by rw [if_neg (by simp)]; exact h4⟩
          · obtain ⟨W, o', rfl, s2, hW⟩ := hp
            have hW' : BS W (fun p => ∃ q, q < (jn ps).length ∧ (r.halt_ = true → (jn ps)[q]? = some none) ∧ rch (itP R ps) r.behind p q) := by
              rw [hlen, Nat.sub_self, List.drop_zero] at hW
              exact hW
            exact ⟨_, rfl, _, rfl, U, W, rfl, rfl, k (U &&& W) H2 (bs_and hU' hW') s2⟩
        refine ⟨_, rfl, ru, CU, dxr, _, _, rfl, s1 _ _ hru, TU.cl, TU.n5, ruF_5 _ _ _ _ _, _, rfl, ?_⟩
        cases hh : r.halt_ with
        | true =>
          refine iteT ⟨_, rfl, x, CA, dx, _, _, rfl, s1 _ _ hx, T.cl, T.n4, paF_4 _ _ _ _ _, ?_⟩
          exact last _ (hE0.congr fun p => ⟨fun e => ⟨(List.getElem?_eq_some_iff.mp e).1, fun _ => e⟩, fun e => e.2 hh⟩)
        | false =>
          refine iteF ⟨_, rfl, x, CA, dx, _, _, rfl, s1 _ _ hx, T.cl, T.n5, paF_5 _ _ _ _ _, last _ (hE.congr fun p => ⟨fun e => ⟨e, fun z => ?_⟩, fun e => e.1⟩)⟩
          rw [hh] at z
          cases z
    cases hs : r.start with
    | true =>
      refine iteT ⟨_, rfl, x, CA, dx, _, _, rfl, hx, T.cl, T.n1, paF_1 _ _ _ _ _, rest _ (hB0.congr fun p => ⟨fun ⟨cs, e⟩ => ⟨by have := (bg_mem e).2; omega, fun _ => ⟨cs, e⟩⟩, fun e => e.2 hs⟩)⟩
    | false =>
      refine iteF ⟨_, rfl, x, CA, dx, _, _, rfl, hx, T.cl, T.n5, paF_5 _ _ _ _ _, rest _ (hE.congr fun p => ⟨fun e => ⟨e, fun z => ?_⟩, fun e => e.1⟩)⟩
      rw [hs] at z
      cases z
end
end Sg

/-! SgPa7 -/
set_option Elab.async false
set_option linter.all false
set_option maxRecDepth 100000
set_option maxHeartbeats 4000000
namespace Sg
open PySem PySem.Spec PyProof.Rows L2
/-- classes as they are read: their numbers rise, their ranges too -/
def ClsOk (l : List Cls1) : Prop := (l.map fun c => c.1).Nodup ∧ ∀ c ∈ l, Rising c.2 ∧ c.2.length ≤ 65536
theorem inClass_is {R : Fh.Rules} (hn : (R.classes.map fun c => c.1).Nodup) {c : Cls1} (hc : c ∈ R.classes) (v : Nat) : R.inClass c.1 v = inR c.2 v := by
  unfold Fh.Rules.inClass
  generalize R.classes = l at hn hc
  induction l with
  | nil => exact absurd hc (by simp)
  | cons x r ih =>
    rw [List.map_cons, List.nodup_cons] at hn
    rw [List.any_cons]
    have none_of : (∀ y ∈ r, y.1 ≠ c.1) → (r.any fun x => x.1 == c.1 && x.2.any fun y => decide (y.1 ≤ v) && decide (v ≤ y.2)) = false := fun h => by
      rw [List.any_eq_false]
      intro y hy
      rw [show (y.1 == c.1) = false by simp [h y hy]]
      simp
    by_cases q : x.1 = c.1
    · have hx : x = c := by
        rcases List.mem_cons.mp hc with e | e
        · exact e.symm
        · exact absurd (List.mem_map.mpr ⟨c, e, q.symm⟩) hn.1
      subst hx
      rw [none_of fun y hy e => hn.1 (List.mem_map.mpr ⟨y, hy, e⟩), Bool.or_false, show (x.1 == x.1) = true by simp]
      rfl
    · rw [show (x.1 == c.1) = false by simp [q], Bool.false_and, Bool.false_or]
      rcases List.mem_cons.mp hc with e | e
      · exact absurd (by rw [e]) q
      · exact ih hn.2 e
theorem valV_mem {κ : Type} [DecidableEq κ] : ∀ {kv : List (κ × V)}, (kv.map fun e => e.1).Nodup → ∀ {k : κ} {v : V}, (k, v) ∈ kv → valV kv k = some v
  | [], _, k, v, h => absurd h (by simp)
  | e :: r, hn, k, v, h => by
    rw [List.map_cons, List.nodup_cons] at hn
    rcases List.mem_cons.mp h with q | q
    · rw [← q, valV_pos rfl]
    · rw [valV_neg fun z => hn.1 (List.mem_map.mpr ⟨(k, v), q, z.symm⟩)]
      exact valV_mem hn.2 q
theorem clp_keys {F : Addr → Prop} {H : Hp} : ∀ {kvs : List (Key × V)} {cs : List Cls1}, ClP F H kvs cs → kvs.map (fun e => e.1) = cs.map fun c => (Sum.inl ((c.1 : Nat) : Int) : Key)
  | _, _, .nil => rfl
  | e :: kvs, c :: cs, .cons q r => by
    rw [List.map_cons, List.map_cons, clp_keys r, q.1]
theorem keys_nodup {l : List Cls1} (h : (l.map fun c => c.1).Nodup) : (l.map fun c => (Sum.inl ((c.1 : Nat) : Int) : Key)).Nodup := by
  rw [show (l.map fun c => (Sum.inl ((c.1 : Nat) : Int) : Key)) = (l.map fun c => c.1).map fun n => (Sum.inl ((n : Nat) : Int) : Key) by rw [List.map_map]; rfl]
  generalize l.map (fun c => c.1) = m at h
  induction m with
  | nil => exact List.nodup_nil
  | cons a r ih =>
    rw [List.nodup_cons] at h
    rw [List.map_cons, List.nodup_cons]
    refine ⟨fun z => ?_, ih h.2⟩
    obtain ⟨b, hb, e⟩ := List.mem_map.mp z
    have : (b : Int) = a := Sum.inl.inj e
    have : b = a := by omega
    exact h.1 (this ▸ hb)
theorem snoc_at {α : Type} {cs : List α} {o : α} {p : Nat} {x : α} : (cs ++ [o])[p]? = some x ↔ cs[p]? = some x ∨ (p = cs.length ∧ o = x) := by
  by_cases q : p < cs.length
  · rw [List.getElem?_append_left q]
    exact ⟨.inl, fun h => h.elim id fun e => by omega⟩
  · rw [List.getElem?_append_right (by omega), List.getElem?_eq_none (by omega : cs.length ≤ p)]
    by_cases e : p = cs.length
    · rw [e, Nat.sub_self]
      exact ⟨fun h => .inr ⟨rfl, Option.some.inj h⟩, fun h => h.elim (fun z => by cases z) fun z => by rw [z.2]; rfl⟩
    · obtain ⟨k, hk⟩ : ∃ k, p - cs.length = k + 1 := ⟨p - cs.length - 1, by omega⟩
      rw [hk]
      exact ⟨fun h => (by cases h), fun h => h.elim (fun z => (by cases z)) fun z => absurd z.1 e⟩
theorem ChD.next {kv : List (Key × V)} {cs : List (Option Nat)} {c S : Nat} (h : ChD kv cs) (hS : BS S (fun p => cs[p]? = some (some c))) :
    ChD (putK kv (Sum.inl ((c : Nat) : Int)) (.int ((S ||| 2 ^ cs.length : Nat) : Nat))) (cs ++ [some c]) := by
  have grow : ∀ p c', (cs ++ [some c])[p]? = some (some c') ↔ cs[p]? = some (some c') ∨ (p = cs.length ∧ c' = c) := fun p c' => by
    rw [snoc_at]
    exact ⟨fun z => z.imp id fun e => ⟨e.1, (Option.some.inj e.2).symm⟩, fun z => z.imp id fun e => ⟨e.1, by rw [e.2]⟩⟩
  refine ⟨fun c' v hv => ?_, fun c' hc' => ?_, fun e he => ?_⟩
  · rw [valV_put] at hv
    by_cases q : (Sum.inl ((c' : Nat) : Int) : Key) = Sum.inl ((c : Nat) : Int)
    · rw [if_pos q] at hv
      have : (c' : Int) = c := Sum.inl.inj q
      obtain rfl : c' = c := by omega
      refine ⟨_, (Option.some.inj hv).symm, (bs_or hS (bs_one cs.length)).congr fun p => ?_⟩
      rw [grow]
      exact ⟨fun z => z.imp id fun e => ⟨e, rfl⟩, fun z => z.imp id fun e => e.1⟩
    · rw [if_neg q] at hv
      obtain ⟨T, e, hT⟩ := h.1 c' v hv
      refine ⟨T, e, hT.congr fun p => ?_⟩
      rw [grow]
      exact ⟨.inl, fun z => z.elim id fun e => absurd (by rw [e.2]) q⟩
  · rw [valV_put]
    by_cases q : (Sum.inl ((c' : Nat) : Int) : Key) = Sum.inl ((c : Nat) : Int)
    · rw [if_pos q]
      rfl
    · rw [if_neg q]
      obtain ⟨p, hp⟩ := List.mem_iff_getElem?.mp hc'
      rcases (grow p c').mp hp with z | z
      · exact h.2.1 c' (List.mem_of_getElem? z)
      · exact absurd (by rw [z.2]) q
  · cases hn : valV kv (Sum.inl ((c : Nat) : Int) : Key) with
    | none =>
      rw [putK_new _ hn] at he
      rcases List.mem_append.mp he with z | z
      · exact h.2.2 e z
      · have : e = (Sum.inl ((c : Nat) : Int), V.int ((S ||| 2 ^ cs.length : Nat) : Nat)) := by simpa using z
        exact ⟨c, by rw [this]⟩
    | some w =>
      have hk : ∀ e ∈ putK kv (Sum.inl ((c : Nat) : Int)) (.int ((S ||| 2 ^ cs.length : Nat) : Nat)), e.1 ∈ kv.map (fun e => e.1) := fun e he => by
        unfold putK at he
        rw [if_pos (by rw [valV_any, hn]; rfl)] at he
        obtain ⟨y, hy, e2⟩ := List.mem_map.mp he
        refine List.mem_map.mpr ⟨y, hy, ?_⟩
        rw [← e2]
        split <;> rfl
      obtain ⟨y, hy, e2⟩ := List.mem_map.mp (hk e he)
      obtain ⟨c2, h2⟩ := h.2.2 y hy
      exact ⟨c2, by rw [← e2, h2]⟩
theorem ChD.last {kv : List (Key × V)} {cs : List (Option Nat)} (h : ChD kv cs) : ChD kv (cs ++ [none]) := by
  have same : ∀ p (c : Nat), (cs ++ [none])[p]? = some (some c) ↔ cs[p]? = some (some c) := fun p c => by
    rw [snoc_at]
    exact ⟨fun z => z.elim id fun e => (by cases e.2), .inl⟩
  refine ⟨fun c v hv => ?_, fun c hc => ?_, h.2.2⟩
  · obtain ⟨S, e, hS⟩ := h.1 c v hv
    exact ⟨S, e, hS.congr fun p => (same p c).symm⟩
  · obtain ⟨p, hp⟩ := List.mem_iff_getElem?.mp hc
    exact h.2.1 c (List.mem_of_getElem? ((same p c).mp hp))
/-! ### one paragraph more -/
theorem jn_snoc : ∀ (ps : List (List Nat)) (c : List Nat), jn (ps ++ [c]) = jn ps ++ c.map some ++ [none]
  | [], c => by simp [jn]
  | x :: ps, c => by
    show x.map some ++ none :: jn (ps ++ [c]) = (x.map some ++ none :: jn ps) ++ c.map some ++ [none]
    rw [jn_snoc ps c]
    simp
theorem bg_snoc : ∀ (ps : List (List Nat)) (c : List Nat) (b : Nat) (cs : List Nat), Bg (ps ++ [c]) b cs ↔ Bg ps b cs ∨ (b = (jn ps).length ∧ cs = c)
  | [], c, b, cs => by
    show (b = 0 ∧ cs = c) ∨ (c.length < b ∧ False) ↔ False ∨ (b = 0 ∧ cs = c)
    simp
  | x :: ps, c, b, cs => by
    show (b = 0 ∧ cs = x) ∨ (x.length < b ∧ Bg (ps ++ [c]) (b - x.length - 1) cs) ↔ ((b = 0 ∧ cs = x) ∨ (x.length < b ∧ Bg ps (b - x.length - 1) cs)) ∨ (b = (jn (x :: ps)).length ∧ cs = c)
    rw [bg_snoc ps c, jn_len]
    constructor
    · rintro (h | ⟨h1, h2 | ⟨h2, h3⟩⟩)
      · exact .inl (.inl h)
      · exact .inl (.inr ⟨h1, h2⟩)
      · exact .inr ⟨by omega, h3⟩
    · rintro ((h | h) | ⟨h2, h3⟩)
      · exact .inl h
      · exact .inr ⟨h.1, .inl h.2⟩
      · exact .inr ⟨by omega, .inr ⟨by omega, h3⟩⟩
theorem jn_snoc_len (ps : List (List Nat)) (c : List Nat) : (jn (ps ++ [c])).length = (jn ps).length + c.length + 1 := by
  rw [jn_snoc, List.length_append, List.length_append, List.length_map]
  rfl
theorem jn_mono : ∀ (ps qs : List (List Nat)), (jn ps).length ≤ (jn (ps ++ qs)).length
  | [], qs => Nat.zero_le _
  | x :: ps, qs => by
    rw [List.cons_append, jn_len, jn_len]
    have := jn_mono ps qs
    omega
/-! ### the fields while they are made -/
def paG (B E : Nat) (d1 : Addr) : List (Str × V) := [("beginnings", .int (B : Nat)), ("ends", .int (E : Nat)), ("of_character", .ref d1)]
theorem paG_new (B E : Nat) (d1 : Addr) : putF "of_character" (.ref d1) (putF "ends" (.int (E : Nat)) (putF "beginnings" (.int (B : Nat)) [])) = paG B E d1 := by
  show putF "of_character" (.ref d1) (putF "ends" (.int (E : Nat)) [("beginnings", .int (B : Nat))]) = _
  rw [put_past (by decide +kernel)]
  show putF "of_character" (.ref d1) [("beginnings", .int (B : Nat)), ("ends", .int (E : Nat))] = _
  rw [put_past (by decide +kernel), put_past (by decide +kernel)]
  rfl
theorem paG_1 (B E : Nat) (d1 : Addr) : (paG B E d1).lookup ("beginnings" : Str) = some (.int (B : Nat)) := lk_here
theorem paG_4 (B E : Nat) (d1 : Addr) : (paG B E d1).lookup ("ends" : Str) = some (.int (E : Nat)) := (lk_past (by decide +kernel)).trans lk_here
theorem paG_2 (B E : Nat) (d1 : Addr) : (paG B E d1).lookup ("of_character" : Str) = some (.ref d1) := (lk_past (by decide +kernel)).trans ((lk_past (by decide +kernel)).trans lk_here)
theorem paG_no (B E : Nat) (d1 : Addr) {m : Str} (h1 : (m == ("beginnings" : Str)) = false := by decide +kernel) (h4 : (m == ("ends" : Str)) = false := by decide +kernel) (h2 : (m == ("of_character" : Str)) = false := by decide +kernel) : (paG B E d1).lookup m = none :=
  (lk_past h1).trans ((lk_past h4).trans ((lk_past h2).trans rfl))
theorem paG_B (B B' E : Nat) (d1 : Addr) : putF "beginnings" (.int (B' : Nat)) (paG B E d1) = paG B' E d1 := put_here
theorem paG_E (B E E' : Nat) (d1 : Addr) : putF "ends" (.int (E' : Nat)) (paG B E d1) = paG B E' d1 := (put_past (by decide +kernel)).trans (congrArg _ put_here)
theorem paG_next (B E W : Nat) (d1 d2 : Addr) : putF "of_class" (.ref d2) (putF "everywhere" (.int (W : Nat)) (paG B E d1)) = paF B E W d1 d2 := by
  show putF "of_class" (.ref d2) (putF "everywhere" (.int (W : Nat)) [("beginnings", .int (B : Nat)), ("ends", .int (E : Nat)), ("of_character", .ref d1)]) = _
  rw [put_past (by decide +kernel), put_past (by decide +kernel), put_past (by decide +kernel)]
  show putF "of_class" (.ref d2) [("beginnings", .int (B : Nat)), ("ends", .int (E : Nat)), ("of_character", .ref d1), ("everywhere", .int (W : Nat))] = _
  rw [put_past (by decide +kernel), put_past (by decide +kernel), put_past (by decide +kernel), put_past (by decide +kernel)]
  rfl
end Sg

/-! SgEn -/
set_option Elab.async false
set_option linter.all false
set_option maxRecDepth 100000
set_option maxHeartbeats 4000000
/-! ### for i, x in enumerate(xs, start=c) -/
namespace Sg
open PySem PySem.Spec PyProof.Rows L2
/-- the list at a, its items in new pairs behind numbers that rise from c -/
def ItS (K : PySem.W.Frag) (a : Addr) (c : Int) : It where
  go := fun j H => ∃ (zs : List V) (z : V), SqL K H a zs ∧ zs[j]? = some z
  yld := fun j H v H' => ∃ (T : Addr) (z : V), v = .ref T ∧ H T = none ∧ H' = upd H T (.tup [.int (c + (j : Nat)), z]) ∧ ∀ zs, SqL K H a zs → zs[j]? = some z
  stop := fun j H => ∃ zs : List V, SqL K H a zs ∧ j = zs.length
theorem turn_enS {P : Program} {w : World} {K : PySem.W.Frag} {parts : List Expr} {n0 : Nat} {ps : Pos} (a en li : Addr) (c : Int) :
    Turn P w K (.Tuple parts n0 ps) (ItS K a c) [en, li] en (fun j h => (∃ was, IsEnum h en li (c + (j : Nat)) was) ∧ h.IsListIter li a j ∧ en ≠ li) where
  mem := List.mem_cons_self ..
  obj := fun j h st b hb => by
    obtain ⟨⟨was, h1⟩, ⟨o, h2, _, h3⟩, _⟩ := st
    rcases List.mem_cons.mp hb with rfl | hb
    · exact ⟨_, h1, fun v q => nomatch q⟩
    · obtain rfl : b = li := by simpa using hb
      exact ⟨o, h2, fun v q => by rw [h3] at q; cases q⟩
  keep := fun j h h' st k => by
    obtain ⟨⟨was, h1⟩, h2, h3⟩ := st
    exact ⟨⟨was, k en (by simp) _ h1⟩, h2.at fun o q => k li (by simp) o q, h3⟩
  item := by
    intro X eP ew eK calm j pins s σ H E I free st more
    subst eP ew eK
    obtain ⟨⟨was, h1⟩, h2, h3⟩ := st
    obtain ⟨zs, z, hq, hz⟩ := more
    obtain ⟨its, rv, p, _⟩ := I.list hq
    obtain ⟨u, hu, ru⟩ := rv.get hz
    have a_li : a ≠ li := fun q => by
      obtain ⟨o, e1, e2, _⟩ := p.isList
      obtain ⟨o', d1, d2, _⟩ := id h2
      rw [q, d1] at e1
      obtain rfl : o' = o := Option.some.inj e1
      rw [d2] at e2
      exact absurd e2 (by decide)
    have en_a : en ≠ a := fun q => by
      obtain ⟨o, e1, e2, _⟩ := p.isList
      rw [← q, h1] at e1
      obtain rfl := Option.some.inj e1
      have e3 : Value.type "enumerate" = Value.type "list" := e2
      exact absurd e3 (by decide)
    have en_lt : en < s.heap.objs.size := Heap.lt_size h1
    have li_lt : li < s.heap.objs.size := by obtain ⟨_, q, _⟩ := id h2; exact Heap.lt_size q
    have D := Draws.list (prog := X.prog) (w := X.w) (A := X.A.in1) (I.ok.hd calm) li a a_li its.toArray
    have jlt : j < its.toArray.size := by
      have := (List.getElem?_eq_some_iff.mp hu).1
      simpa using this
    refine wpAny_pyNext_enum_itemC D h1 ⟨h2, p.isList⟩ jlt h3 (by simp [h3, en_a]) fun y h' tk hy out st' pair _ kept => ?_
    have ey : y = u := by
      have hy : its.toArray[j]? = some y := hy
      have hu' : its.toArray[j]? = some u := by simpa using hu
      exact Option.some.inj (hy.symm.trans hu')
    subst ey
    refine ⟨_, rfl, wpAny_letOwnedTupleGo_enum (s := { s with heap := h', toks := tk + 1 }) out fun h'' back sb => ?_⟩
    have pair2 := (sb.2 _ (Nat.ne_of_gt en_lt)).trans pair
    have fresh : ObjOk X.prog X.w (upd H s.heap.objs.size (.tup [.int (c + (j : Nat)), z])) h'' s.heap.objs.size (.tup [.int (c + (j : Nat)), z]) :=
      ⟨by show 2 ≤ sizeLine; decide, _, .cons ⟨tk, rfl⟩ (.cons ru .nil), ⟨_, pair2, rfl, _, rfl⟩⟩
    have J : Inv X pins σ (upd H s.heap.objs.size (.tup [.int (c + (j : Nat)), z])) { s with heap := h'', toks := tk + 1 } :=
      I.turnedNew (ch := [en, li]) (fun b ob hb q => (sb.2 b (fun r => hb (by simp [r]))).trans (kept b ob (fun r => hb (by simp [r])) (fun r => hb (by simp [r])) q)) free (Nat.le_refl _) fresh
    refine ⟨.ref s.heap.objs.size, _, J, rfl, ⟨_, z, rfl, I.hok.fresh (Nat.le_refl _), rfl, fun ys hy => by rw [I.list_inj hy hq]; exact hz⟩, ⟨⟨y, ?_⟩, st'.1.at fun o q => (sb.2 li (Ne.symm h3)).trans q, h3⟩, fun b hb => ?_⟩
    · rw [show c + ((j + 1 : Nat) : Int) = c + (j : Nat) + 1 by omega]
      exact back
    · have lt : b < s.heap.objs.size := by
        rcases List.mem_cons.mp hb with rfl | hb
        · exact en_lt
        · obtain rfl : b = li := by simpa using hb
          exact li_lt
      rw [upd_ne (Nat.ne_of_lt lt)]
      exact (free b hb).1
  done := by
    intro X eP ew eK calm j pins s σ H E I free st over
    subst eP ew eK
    obtain ⟨⟨was, h1⟩, h2, h3⟩ := st
    obtain ⟨zs, hq, hj⟩ := over
    obtain ⟨its, rv, p, _⟩ := I.list hq
    have a_li : a ≠ li := fun q => by
      obtain ⟨o, e1, e2, _⟩ := p.isList
      obtain ⟨o', d1, d2, _⟩ := id h2
      rw [q, d1] at e1
      obtain rfl : o' = o := Option.some.inj e1
      rw [d2] at e2
      exact absurd e2 (by decide)
    have D := Draws.list (prog := X.prog) (w := X.w) (A := X.A.in1) (I.ok.hd calm) li a a_li its.toArray
    have jn : j = its.toArray.size := by
      have := rv.length
      simp
      omega
    obtain ⟨f0, f1, f2, f3, f4, f5⟩ := free li (by simp)
    refine wpAny_pyNext_enum_endD D h1 ⟨jn ▸ h2, p.isList⟩ fun h' kept => ⟨rfl, I.turned (t' := s.toks) (fun b o hb q => kept b o hb q) f0 f1 f3 f4 f5⟩
  self := fun A j s Q E st h => by
    obtain ⟨⟨_, h1⟩, _⟩ := st
    exact wpAny_pyIter_enum h1 h
def iEnS (K : PySem.W.Frag) (ta : TA) (tk : TE) : TI := fun σ H R => ta σ H fun vs H1 => tk σ H1 fun v H2 => ∃ (a : Addr) (zs : List V) (c : Int), vs = [.ref a] ∧ v = .int c ∧ -(2 ^ 62) ≤ c ∧ c < 2 ^ 62 ∧ SqL K H2 a zs ∧ R (ItS K a c) H2
theorem pi_enS {X : Cx} {e k : Expr} {ta : TA} {tk : TE} {p pos ps kp : Pos} {parts : List Expr} {n0 : Nat} (gl : Gl X "enumerate") (none_ : X.mg "enumerate" = none) (ha : PA X [e] ta) (hk : PE X k tk) (cut : starEach [e] X.env = [(false, eval e X.env)] := by rfl) :
    PI X (.Tuple parts n0 ps) (.Call (.Name "enumerate" p) [e] [⟨some "start", k, kp⟩] pos) (iEnS X.K ta tk) := by
  refine ⟨fun pins s σ H R I h => ?_⟩
  refine wpAny_Call_Name_kw (ld_blt I gl none_ boot_enumerate ?_)
  refine PySem.W.callWith_of (P := fun _ => True) ?_ (fun h _ => ⟨_, .inr (.inl rfl), PySem.W.Looks.of_pure rfl⟩) ?_
  · rw [cut]
    rfl
  rw [cut]
  refine PyProof.Rows.evalArgs_kwB (by rfl) ?_
  have args := ha.run pos pins s σ H _ I h
  rw [cut] at args
  refine thn args fun us s1 ⟨vs, H1, I1, r1, q1⟩ => ?_
  refine PyProof.Rows.kws_cons (thn (hk.run pins s1 σ H1 _ I1 q1) fun u s2 ⟨v, H2, I2, r2, q2⟩ => PyProof.Rows.kws_nil ⟨True.intro, ?_⟩)
  obtain ⟨a, zs, c, rfl, rfl, c1, c2, hq, q⟩ := q2
  obtain ⟨t, rfl⟩ := r2
  cases r1 with
  | cons r rr =>
    cases rr
    cases r
    obtain ⟨its, rv, p', _⟩ := I2.list hq
    show wpAny _ _ (call (.type "enumerate") [.ref a] [(Str.ofString "start", .int c t)]) _ _ _
    refine enum_begins_start (begins_list a its.toArray) p'.isList (by omega) (by omega) fun h' he hit _ kept => ?_
    refine wpAny_pyIter_enum he ?_
    have J : Inv X pins σ H2 { s2 with heap := h' } := I2.kept (t' := s2.toks) kept
    refine ⟨s2.heap.objs.size + 1, [s2.heap.objs.size + 1, s2.heap.objs.size], _, _, H2, rfl, J, turn_enS a (s2.heap.objs.size + 1) s2.heap.objs.size c, ⟨⟨.none, ?_⟩, ⟨_, hit, rfl, rfl⟩, Nat.succ_ne_self _⟩, fun b hb => ?_, q⟩
    · rw [show c + ((0 : Nat) : Int) = c by omega]
      exact he
    · have le : s2.heap.objs.size ≤ b := by
        rcases List.mem_cons.mp hb with rfl | hb
        · omega
        · obtain rfl : b = s2.heap.objs.size := by simpa using hb
          omega
      exact I2.fpOk le (I2.hok.fresh le)
theorem walk_enS {K : PySem.W.Frag} {a : Addr} {c : Int} {xs : List V} : Walk (ItS K a c) xs.length (fun H => SqL K H a xs) (YPair (fun j => some (.int (c + (j : Nat)))) (fun j => xs[j]?)) := by
  refine ⟨fun j _ hj q => ⟨xs, xs[j], q, by simp [hj]⟩, fun _ q => ⟨xs, q, rfl⟩, fun j H v H' _ q y => ?_⟩
  obtain ⟨T, z, h1, h2, h3, h4⟩ := y
  exact ⟨T, .int (c + (j : Nat)), z, h1, h2, h3, rfl, h4 xs q⟩
end Sg

/-! SgPa8 -/
set_option Elab.async false
set_option linter.all false
set_option maxRecDepth 100000
set_option maxHeartbeats 4000000
namespace Sg
open PySem PySem.Spec PyProof.Rows L2
section
variable {P : Program} {w : World} {K : PySem.W.Frag} {mg : Str → Option Value} {base : Heap} {CA CI CU CS : Addr}
/-! ### take_up -/
/-- all but what stands at p and at d is as it was -/
def Kp2 (p d : Addr) (H H' : Hp) : Prop := ∀ b o, H b = some o → b ≠ p → b ≠ d → H' b = some o
/-- what Paragraphs has of the paragraphs ps -/
structure PaG (ps : List (List Nat)) (B E : Nat) (kv : List (Key × V)) : Prop where
  c : ChD kv (jn ps)
  l : kv.length ≤ (jn ps).length
  b : BS B (fun p => ∃ cs, Bg ps p cs)
  e : BS E (fun p => (jn ps)[p]? = some none)
def spTkU (CA : Addr) : Sp := fun vs H Q _ => ∃ (p a dx d1 : Addr) (B E : Nat) (kv : List (Key × V)) (ps : List (List Nat)) (c : List Nat), vs = [.ref p, .ref a, .int ((jn ps).length : Nat)] ∧ H p = some (.ins CA dx (paG B E d1)) ∧ H d1 = some (.dK kv) ∧ H a = some (.lst (nvs c)) ∧ PaG ps B E kv ∧ (jn ps).length + c.length ≤ 300000 ∧
  ∀ (H' : Hp) (B' E' : Nat) (kv' : List (Key × V)), Kp2 p d1 H H' → H' p = some (.ins CA dx (paG B' E' d1)) → H' d1 = some (.dK kv') → PaG (ps ++ [c]) B' E' kv' → Q .non H'
theorem scTkU : FnScope ["self", "characters", "first", "place", "character"] ["self", "characters", "first"] (defScope sTkU) := ⟨rfl, rfl, rfl, by decide +kernel, rfl, by decide +kernel, by decide +kernel⟩
theorem ok_tkU {f : Addr} {fd : FuncData} (F : Fun K "take_up" "Paragraphs.take_up" sTkU f fd) (T : TxA K mg CA) (TN : TxN mg) : FnOk P w K mg base CX0 2 f fd ["self", "characters", "first"] (spTkU CA) := by
  refine F.ok scTkU (fun vs H Q E h => ?_) (fun cdv A outer s H vs Q E hr h => ?_)
  · obtain ⟨p, a, dx, d1, B, E0, kv, ps, c, rfl, _⟩ := h
    rfl
  · obtain ⟨p, a, dx, d1, B, E0, kv, ps, c, rfl, hp, hd, ha, hG, hn, k⟩ := h
    have hu := hu_of hr
    refine ⟨_, pss_cons (ps_fld (pv 0) (pe_op op_orNat (pe_fld (pv 0) rfl) (pe_op op_shlNat pe_int (pv 2))) rfl)
      (pss_cons (ps_for PassesOwn.never rfl (pi_enS (by rfl) T.en (pa_cons (pv 1) pa_nil) (pv 2)) (pg_tup rfl (pgs_cons (pg_name (i := 3) scTkU.nd rfl (Or.inl rfl)) (pgs_cons (pg_name (i := 4) scTkU.nd rfl (Or.inl rfl)) pgs_nil)))
        (pss_one (ps_dput hu (pe_fld (pv 0) rfl) (pv 4) (pe_op op_orNat (pe_dget2 hu (pe_fld (pv 0) rfl) (pv 4) pe_int ⟨rfl, rfl, rfl, rfl⟩) (pe_op op_shlNat pe_int (pv 3))) rfl)))
      (pss_one (ps_fld (pv 0) (pe_op op_orNat (pe_fld (pv 0) rfl) (pe_op op_shlNat pe_int (pe_op op_add (pv 2) (pe_callB call_len_seq (by rfl) TN.len PySem.boot_len (pa_cons (pv 1) pa_nil))))) rfl))), ?_⟩
    have hpa : a ≠ p := ne_of ha hp (by intro z; cases z)
    have hpd : d1 ≠ p := ne_of hd hp (by intro z; cases z)
    have had : a ≠ d1 := ne_of ha hd (by intro z; cases z)
    have h1n : 1 < 2 ^ 1 := by decide
    have h9k : (600000 : Nat) < sizeLine := by decide
    refine ⟨_, rfl, p, CA, dx, _, _, rfl, hp, T.cl, T.n1, paG_1 _ _ _, _, rfl, 1, (jn ps).length, 1, rfl, rfl, h1n, by omega, B, 1 * 2 ^ (jn ps).length, rfl, rfl, _, rfl, p, CA, dx, _, rfl, hp, T.cl, T.n1, (by show 3 < 1000; decide), ?_⟩
    rw [Nat.one_mul, paG_B]
    obtain ⟨H1, e1, k1, hp1⟩ : ∃ H1 : Hp, H1 = upd H p (.ins CA dx (paG (B ||| 2 ^ (jn ps).length) E0 d1)) ∧ Kp p H H1 ∧ H1 p = some (.ins CA dx (paG (B ||| 2 ^ (jn ps).length) E0 d1)) := ⟨_, rfl, Kp.self, upd_same⟩
    rw [← e1]
    refine ⟨_, rfl, _, rfl, a, nvs c, _, rfl, rfl, by omega, by omega, SqL.of (k1 _ _ ha hpa), ?_⟩
    refine for_it (walk_enS (xs := nvs c)) (fun i σ H' => ∃ (kv' : List (Key × V)) (o1 o2 : Option V), σ = [some (.ref p), some (.ref a), some (.int ((jn ps).length : Nat)), o1, o2] ∧ Kp d1 H1 H' ∧ H' d1 = some (.dK kv') ∧ ChD kv' (jn ps ++ (c.take i).map some) ∧ kv'.length ≤ (jn ps).length + i)
      ⟨kv, none, none, rfl, Kp.refl _ _, k1 _ _ hd hpd, by simpa using hG.c, hG.l⟩ (fun i σ H' _ q => ?_) (fun i v σ H' H3 hi q hy => ?_) (fun σ H' q => ?_)
    · obtain ⟨kv', o1, o2, rfl, kq, _⟩ := q
      exact SqL.of (kq _ _ (k1 _ _ ha hpa) had)
    · obtain ⟨kv', o1, o2, rfl, kq, hdq, hC, hl⟩ := q
      obtain ⟨t, x1, y1, rfl, hT, rfl, f1, f2⟩ := hy
      obtain rfl : V.int ((jn ps).length + (i : Nat)) = x1 := Option.some.inj f1
      replace f2 : (c.map fun (n : Nat) => V.int (n : Nat))[i]? = some y1 := f2
      rw [List.getElem?_map] at f2
      rw [nvs_len] at hi
      cases hc : c[i]? with
      | none => rw [hc] at f2; cases f2
      | some z =>
        rw [hc] at f2
        obtain rfl : V.int (z : Nat) = y1 := Option.some.inj f2
        have st : Same H' (upd H' t (.tup [.int (((jn ps).length : Nat) + (i : Nat)), .int (z : Nat)])) := same_new hT
        have hpq : H' p = some (.ins CA dx (paG (B ||| 2 ^ (jn ps).length) E0 d1)) := kq _ _ hp1 (Ne.symm hpd)
        obtain ⟨S, g1, g2⟩ := hC.get z
        have hlen : (jn ps ++ (c.take i).map some).length = (jn ps).length + i := by
          rw [List.length_append, List.length_map, List.length_take]
          omega
        refine ⟨t, _, rfl, .inl (.inl upd_same), rfl, _, _, rfl, _, _, rfl, rfl, ?_⟩
        refine ⟨_, rfl, p, CA, dx, _, _, rfl, st _ _ hpq, T.cl, T.n2, paG_2 _ _ _, d1, rfl, .inl ⟨kv', .inl (st _ _ hdq)⟩, _, rfl, _, DGet.k (k := Sum.inl ((z : Nat) : Int)) (st _ _ hdq), ?_⟩
        rw [g1]
        refine ⟨_, rfl, 1, (jn ps).length + i, 1, rfl, (by rw [Int.natCast_add]), h1n, by omega, S, 1 * 2 ^ ((jn ps).length + i), rfl, rfl, _, rfl, p, CA, dx, _, _, rfl, st _ _ hpq, T.cl, T.n2, paG_2 _ _ _, _, rfl, d1, _, rfl, DPut.k (k := Sum.inl ((z : Nat) : Int)) (st _ _ hdq) (by omega), ?_⟩
        rw [Nat.one_mul]
        have hl2 := length_putK kv' (Sum.inl ((z : Nat) : Int) : Key) (.int ((S ||| 2 ^ ((jn ps).length + i) : Nat) : Nat))
        refine ⟨_, _, _, rfl, fun b o e n => ?_, upd_same, ?_, by omega⟩
        · rw [upd_ne n]
          exact st _ _ (kq b o e n)
        · have := hC.next g2
          rw [hlen, List.append_assoc] at this
          rw [List.take_add_one, hc, List.map_append]
          exact this
    · obtain ⟨kv', o1, o2, rfl, kq, hdq, hC, hl⟩ := q
      rw [nvs_len, List.take_length] at hC
      rw [nvs_len] at hl
      have hpq : H' p = some (.ins CA dx (paG (B ||| 2 ^ (jn ps).length) E0 d1)) := kq _ _ hp1 (Ne.symm hpd)
      refine ⟨_, rfl, p, CA, dx, _, _, rfl, hpq, T.cl, T.n4, paG_4 _ _ _, _, rfl, _, rfl, a, _, rfl, .inl (SqL.of (kq _ _ (k1 _ _ ha hpa) had)), _, _, rfl, rfl, 1, (jn ps).length + c.length, 1, rfl, (by rw [nvs_len, Int.natCast_add]), h1n, by omega, E0, 1 * 2 ^ ((jn ps).length + c.length), rfl, rfl, _, rfl, p, CA, dx, _, rfl, hpq, T.cl, T.n4, (by show 3 < 1000; decide), ?_⟩
      rw [Nat.one_mul, paG_E]
      refine k _ _ _ kv' (fun b o e n1 n2 => ?_) upd_same ?_ ⟨?_, ?_, ?_, ?_⟩
      · rw [upd_ne n1]
        exact kq _ _ (k1 _ _ e n1) n2
      · rw [upd_ne hpd]
        exact hdq
      · rw [jn_snoc]
        exact hC.last
      · rw [jn_snoc_len]
        omega
      · refine (bs_or hG.b (bs_one (jn ps).length)).congr fun q => ?_
        constructor
        · rintro (⟨cs, h⟩ | h)
          · exact ⟨cs, (bg_snoc _ _ _ _).mpr (.inl h)⟩
          · exact ⟨c, (bg_snoc _ _ _ _).mpr (.inr ⟨h, rfl⟩)⟩
        · rintro ⟨cs, h⟩
          rcases (bg_snoc _ _ _ _).mp h with h | h
          · exact .inl ⟨cs, h⟩
          · exact .inr h.1
      · refine (bs_or hG.e (bs_one ((jn ps).length + c.length))).congr fun q => ?_
        rw [jn_snoc, snoc_at, List.length_append, List.length_map]
        constructor
        · rintro (h | h)
          · refine .inl ?_
            rw [List.getElem?_append_left (List.getElem?_eq_some_iff.mp h).1]
            exact h
          · exact .inr ⟨h, rfl⟩
        · rintro (h | h)
          · by_cases lt : q < (jn ps).length
            · rw [List.getElem?_append_left lt] at h
              exact .inl h
            · rw [List.getElem?_append_right (by omega), List.getElem?_map] at h
              cases e : c[q - (jn ps).length]? with
              | none => rw [e] at h; cases h
              | some z => rw [e] at h; cases h
          · exact .inr h.1
end
end Sg

/-! SgPaI -/
set_option Elab.async false
set_option linter.all false
set_option maxRecDepth 100000
set_option maxHeartbeats 4000000
namespace Sg
open PySem PySem.Spec PyProof.Rows L2
/-- paragraphs in a list, each as a list of its characters -/
def PgL (H : Hp) (a : Addr) (ps : List (List Nat)) : Prop := ∃ ts : List Addr, H a = some (.lst (ts.map V.ref)) ∧ Paired (fun (t : Addr) (c : List Nat) => H t = some (.lst (nvs c))) ts ps
theorem PgL.keep {H H' : Hp} {a : Addr} {ps : List (List Nat)} (h : PgL H a ps) (s : Same H H') : PgL H' a ps := by
  obtain ⟨ts, h1, h2⟩ := h
  exact ⟨ts, s _ _ h1, h2.mono fun _ _ z => s _ _ z⟩
theorem jn_take {ps : List (List Nat)} {i : Nat} {c : List Nat} (h : ps[i]? = some c) : ps.take (i + 1) = ps.take i ++ [c] := by
  rw [List.take_add_one, h]
  rfl
theorem jn_take_le (ps : List (List Nat)) (i : Nat) : (jn (ps.take i)).length ≤ (jn ps).length := by
  have := jn_mono (ps.take i) (ps.drop i)
  rw [List.take_append_drop] at this
  exact this
section
variable {P : Program} {w : World} {K : PySem.W.Frag} {mg : Str → Option Value} {base : Heap} {CA CI CU CS : Addr}
/-! ### Paragraphs -/
def spPaI (CA : Addr) : Sp := fun vs H Q _ => ∃ (p dx a d : Addr) (R : Fh.Rules) (ps : List (List Nat)) (F : Addr → Prop), vs = [.ref p, .ref a, .ref d] ∧ H p = some (.ins CA dx []) ∧ PgL H a ps ∧ (jn ps).length ≤ 300000 ∧ ClAt F H d R.classes ∧ R.classes.length ≤ 16 ∧ ClsOk R.classes ∧
  ∀ H' : Hp, PaAt CA H' p R ps → Kp p H H' → Q .non H'
theorem scPaI : FnScope ["self", "paragraphs", "classes", "first", "characters", "number"] ["self", "paragraphs", "classes"] (defScope sPaI) := ⟨rfl, rfl, rfl, by decide +kernel, rfl, by decide +kernel, by decide +kernel⟩
theorem ok_paI {f : Addr} {fd : FuncData} (F : Fun K "__init__" "Paragraphs.__init__" sPaI f fd) (T : TxA K mg CA) (TN : TxN mg) (GT : MethOk P w K mg base CX0 2 CA "take_up" ["self", "characters", "first"] (spTkU CA)) (GW : MethOk P w K mg base CX0 3 CA "where_in" ["self", "ranges"] (spWIn CA)) :
    FnOk P w K mg base CX0 4 f fd ["self", "paragraphs", "classes"] (spPaI CA) := by
  refine F.ok scPaI (fun vs H Q E h => ?_) (fun cdv A outer s H vs Q E hr h => ?_)
  · obtain ⟨p, dx, a, d, R, ps, G, rfl, _⟩ := h
    rfl
  · obtain ⟨p, dx, a, d, R, ps, G, rfl, hp, ⟨ts, ha, hPs⟩, hn, ⟨hGd, kvs, hd, hP⟩, hc16, ⟨hnd, hri⟩, k⟩ := h
    have hu := hu_of hr
    have hr2 : Room 2 (A.deeper (envOfC (Str.ofString "Paragraphs.__init__") (defScope sPaI) s.heap.objs.size f cdv)) := hr.mono (by decide)
    refine ⟨_, pss_cons (ps_fld (pv 0) pe_int rfl)
      (pss_cons (ps_fld (pv 0) pe_int rfl)
      (pss_cons (ps_fld (pv 0) pe_dnewK rfl)
      (pss_cons (ps_set (i := 3) scPaI.nd rfl (Or.inl rfl) pe_int)
      (pss_cons (ps_for PassesOwn.never rfl (pi_list (pv 1)) (pg_name (i := 4) scPaI.nd rfl (Or.inl rfl))
        (pss_cons (ps_expr (pe_m GT T.cl hr2 pass0 (pv 0) (by exact (pa_cons (pv 4) (pa_cons (pv 3) pa_nil)))))
        (pss_one (ps_aug (i := 3) scPaI.nd rfl (Or.inl rfl) (pe_op op_add (pe_callB call_len_seq (by rfl) TN.len PySem.boot_len (pa_cons (pv 4) pa_nil)) pe_int) ip_add))))
      (pss_cons (ps_fld (pv 0) (pe_op op_subN (pe_op op_shlNat pe_int (pv 3)) pe_int) rfl)
      (pss_cons (ps_fld (pv 0) pe_dnewK rfl)
      (pss_one (ps_lock (ps_for PassesOwn.never rfl (pi_keys (pv 2)) (pg_name (i := 5) scPaI.nd rfl (Or.inl rfl))
        (pss_one (ps_dput hu (pe_fld (pv 0) rfl) (pv 5) (pe_m GW T.cl hr pass0 (pv 0) (by exact (pa_cons (pe_dget hu (pv 2) (pv 5) (fun _ _ => rfl)) pa_nil))) rfl))))))))))), ?_⟩
    have h1k : (5000 : Nat) < sizeLine := by decide
    have hpa : a ≠ p := ne_of ha hp (by intro z; cases z)
    have hdp : d ≠ p := ne_of hd hp (by intro z; cases z)
    have h1n : 1 < 2 ^ 1 := by decide
    refine ⟨_, rfl, p, CA, dx, [], rfl, hp, T.cl, T.n1, (by show 0 < 1000; decide), _, rfl, p, CA, dx, _, rfl, upd_same, T.cl, T.n4, (by show 1 < 1000; decide), fun d1 hd1 => ?_⟩
    have hd1p : d1 ≠ p := fun z => by
      rw [z, upd_same] at hd1
      cases hd1
    have hd1H : H d1 = none := by
      rw [upd_ne hd1p, upd_ne hd1p] at hd1
      exact hd1
    refine ⟨_, rfl, p, CA, dx, _, rfl, (by rw [upd_ne (Ne.symm hd1p)]; exact upd_same), T.cl, T.n2, (by show 2 < 1000; decide), ?_⟩
    have eG : putF "of_character" (.ref d1) (putF "ends" (.int 0) (putF "beginnings" (.int 0) [])) = paG 0 0 d1 := paG_new 0 0 d1
    rw [eG]
    obtain ⟨H2, e2, kp2, hp2, hd2⟩ : ∃ H2 : Hp, H2 = upd (upd (upd (upd H p (.ins CA dx (putF "beginnings" (.int 0) []))) p (.ins CA dx (putF "ends" (.int 0) (putF "beginnings" (.int 0) [])))) d1 (.dK [])) p (.ins CA dx (paG 0 0 d1)) ∧ Kp p H H2 ∧ H2 p = some (.ins CA dx (paG 0 0 d1)) ∧ H2 d1 = some (.dK []) := by
      refine ⟨_, rfl, fun b o e n => ?_, upd_same, ?_⟩
      · rw [upd_ne n, upd_ne (ne_of_none e hd1H), upd_ne n, upd_ne n]
        exact e
      · rw [upd_ne hd1p, upd_same]
    rw [← e2]
    refine ⟨_, rfl, a, rfl, ⟨_, SqL.of (kp2 _ _ ha hpa)⟩, ?_⟩
    refine for_list (xs := ts.map V.ref) (fun i σ H' => ∃ (B E0 : Nat) (kv : List (Key × V)) (o : Option V), σ = [some (.ref p), some (.ref a), some (.ref d), some (.int ((jn (ps.take i)).length : Nat)), o, none] ∧ Kp p H H' ∧ H' p = some (.ins CA dx (paG B E0 d1)) ∧ H' d1 = some (.dK kv) ∧ PaG (ps.take i) B E0 kv)
      ⟨0, 0, [], none, rfl, kp2, hp2, hd2, ⟨⟨fun c v h => (by cases h), fun c hc => absurd hc (by simp [jn]), fun e he => absurd he (by simp)⟩, Nat.zero_le _, bs_zero.congr fun q => ⟨fun z => z.elim, fun ⟨cs, z⟩ => z.elim⟩, bs_zero.congr fun q => ⟨fun z => z.elim, fun z => by simp [jn] at z⟩⟩⟩ (fun i σ H' _ q => ?_) (fun i v σ H' hv q => ?_) (fun σ H' q => ?_)
    · obtain ⟨B, E0, kv, o, rfl, kq, _⟩ := q
      exact SqL.of (kq _ _ ha hpa)
    · obtain ⟨B, E0, kv, o, rfl, kq, hpq, hdq, hG⟩ := q
      rw [List.getElem?_map] at hv
      cases ht : ts[i]? with
      | none => rw [ht] at hv; cases hv
      | some t =>
        rw [ht] at hv
        obtain rfl : V.ref t = v := Option.some.inj hv
        obtain ⟨c, hc, hT⟩ := paired_get hPs ht
        have htp : t ≠ p := ne_of hT hp (by intro z; cases z)
        have hle := jn_take_le ps (i + 1)
        rw [jn_take hc, jn_snoc_len] at hle
        refine ⟨_, rfl, p, dx, _, rfl, hpq, paG_no _ _ _, _, rfl, _, rfl, p, t, dx, d1, B, E0, kv, ps.take i, c, rfl, hpq, hdq, kq _ _ hT htp, hG, by omega, fun H3 B' E' kv' k3 hp3 hd3 hG3 => ?_⟩
        have kp3 : Kp p H H3 := fun b o e n => k3 _ _ (kq _ _ e n) n (ne_of_none e hd1H)
        refine ⟨_, rfl, _, rfl, t, _, rfl, .inl (SqL.of (kp3 _ _ hT htp)), _, _, rfl, rfl, _, _, rfl, rfl, B', E', kv', some (.ref t), ?_, kp3, hp3, hd3, by rw [jn_take hc]; exact hG3⟩
        rw [nvs_len, jn_take hc, jn_snoc_len]
        rw [show (((jn (ps.take i)).length + c.length + 1 : Nat) : Int) = ((jn (ps.take i)).length : Nat) + ((c.length : Nat) + 1) by omega]
        rfl
    · obtain ⟨B, E0, k1, o, rfl, kp, hpp, hdd, hG⟩ := q
      rw [List.length_map, hPs.length, List.take_length] at hG ⊢
      refine ⟨_, rfl, 1, (jn ps).length, 1, rfl, rfl, h1n, by omega, 1 * 2 ^ (jn ps).length, 1, rfl, rfl, ?_, _, rfl, p, CA, dx, _, rfl, hpp, T.cl, T.n5, (by show 3 < 1000; decide), fun d2 hd2' => ?_⟩
      · rw [Nat.one_mul]
        exact Nat.one_le_two_pow
      rw [Nat.one_mul] at hd2' ⊢
      have h2p : d2 ≠ p := fun z => by
        rw [z, upd_same] at hd2'
        cases hd2'
      have hd2'' : H' d2 = none := by
        rw [upd_ne h2p] at hd2'
        exact hd2'
      have h21 : d2 ≠ d1 := fun z => by
        rw [z, hdd] at hd2''
        cases hd2''
      have h2H : ∀ b o, H b = some o → b ≠ p → b ≠ d2 := fun b o e n => ne_of_none (kp b o e n) hd2''
      refine ⟨_, rfl, p, CA, dx, _, rfl, (by rw [upd_ne (Ne.symm h2p)]; exact upd_same), T.cl, T.n3, (by show 4 < 1000; decide), ?_⟩
      rw [paG_next]
      obtain ⟨H4, e4, kp4, hp4, h14, h24⟩ : ∃ H4 : Hp, H4 = upd (upd (upd H' p (.ins CA dx (putF "everywhere" (.int ((2 ^ (jn ps).length - 1 : Nat) : Nat)) (paG B E0 d1)))) d2 (.dK [])) p (.ins CA dx (paF B E0 (2 ^ (jn ps).length - 1) d1 d2)) ∧ Kp p H H4 ∧ H4 p = some (.ins CA dx (paF B E0 (2 ^ (jn ps).length - 1) d1 d2)) ∧ H4 d1 = some (.dK k1) ∧ H4 d2 = some (.dK []) := by
        refine ⟨_, rfl, fun b o e n => ?_, upd_same, ?_, ?_⟩
        · rw [upd_ne n, upd_ne (h2H b o e n), upd_ne n]
          exact kp b o e n
        · rw [upd_ne hd1p, upd_ne (Ne.symm h21), upd_ne hd1p]
          exact hdd
        · rw [upd_ne h2p, upd_same]
      rw [← e4]
      have hd4 := kp4 _ _ hd hdp
      have hd1d : d1 ≠ d := fun z => by
        rw [z] at hd1H
        rw [hd1H] at hd
        cases hd
      have hd2d : d2 ≠ d := (h2H d _ hd hdp).symm
      refine ⟨d, _, hd4, trivial, fun od => ⟨_, rfl, d, od, rfl, .inl ⟨kvs, upd_same, ?_⟩⟩⟩
      refine for_it walk_keys (fun i σ H' => ∃ (k2 : List (Key × V)) (o3 o4 o5 : Option V), σ = [some (.ref p), some (.ref a), some (.ref d), o3, o4, o5] ∧ (∀ b o, H b = some o → b ≠ p → b ≠ d → H' b = some o) ∧ H' p = some (.ins CA dx (paF B E0 (2 ^ (jn ps).length - 1) d1 d2)) ∧ H' d = some (.frz od (.dK kvs)) ∧ H' d1 = some (.dK k1) ∧
          H' d2 = some (.dK k2) ∧ k2.length ≤ i ∧ ∀ j c, j < i → R.classes[j]? = some c → ∃ S : Nat, valV k2 (Sum.inl ((c.1 : Nat) : Int)) = some (.int (S : Nat)) ∧ BS S (fun p => ∃ v, (jn ps)[p]? = some (some v) ∧ inR c.2 v = true))
        ⟨[], _, _, none, rfl, fun b o e n1 n2 => ?_, ?_, upd_same, ?_, ?_, Nat.zero_le _, fun j c hj => by omega⟩ (fun i σ H' _ q => ?_) (fun i v σ H' H3 hi q hy => ?_) (fun σ H' q => ?_)
      · rw [upd_ne n2]
        exact kp4 b o e n1
      · rw [upd_ne (Ne.symm hdp)]
        exact hp4
      · rw [upd_ne hd1d]
        exact h14
      · rw [upd_ne hd2d]
        exact h24
      · obtain ⟨k2, o3, o4, o5, rfl, _, _, hf, _⟩ := q
        exact hf
      · obtain ⟨k2, o3, o4, o5, rfl, kq, hpq, hdq, h1q, h2q, hlq, hcl⟩ := q
        obtain ⟨rfl, ky, vy, hkv, rfl⟩ := hy
        obtain ⟨c, hc, hk1, ra, hk2, hra⟩ := paired_get hP hkv
        replace hk1 : ky = Sum.inl ((c.1 : Nat) : Int) := hk1
        replace hk2 : vy = V.ref ra := hk2
        subst hk1 hk2
        have hcm := List.mem_of_getElem? hc
        obtain ⟨r1, r2⟩ := hri c hcm
        have hval : valV kvs (Sum.inl ((c.1 : Nat) : Int)) = some (V.ref ra) := valV_mem (by rw [clp_keys hP]; exact keys_nodup hnd) (List.mem_of_getElem? hkv)
        have hra' : RgL G H3 ra c.2 := by
          obtain ⟨f1, ts, f2, f3⟩ := hra
          exact ⟨f1, ts, kq _ _ f2 (ne_of f2 hp (by intro z; cases z)) (ne_of f2 hd (by intro z; cases z)), f3.mono fun t r z => ⟨z.1, kq _ _ z.2 (ne_of z.2 hp (by intro y; cases y)) (ne_of z.2 hd (by intro y; cases y))⟩⟩
        refine ⟨_, rfl, p, dx, _, rfl, hpq, paF_no _ _ _ _ _, _, rfl, _, rfl, d, _, rfl, .inl ⟨kvs, Sum.inl ((c.1 : Nat) : Int), .inr ⟨od, hdq⟩, rfl, hval.symm⟩, p, ra, dx, d1, _, k1, jn ps, c.2, G, rfl, hpq, paF_2 _ _ _ _ _, h1q, hG.c, hra', r1, r2, fun S hS => ?_⟩
        refine ⟨_, rfl, p, CA, dx, _, _, rfl, hpq, T.cl, T.n3, paF_3 _ _ _ _ _, _, rfl, d2, _, rfl, DPut.k (k := Sum.inl ((c.1 : Nat) : Int)) h2q ?_, ?_⟩
        · have : i < R.classes.length := (List.getElem?_eq_some_iff.mp hc).1
          omega
        have hl2 := length_putK k2 (Sum.inl ((c.1 : Nat) : Int) : Key) (.int (S : Nat))
        refine ⟨_, _, _, _, rfl, fun b o e n1 n2 => ?_, ?_, ?_, ?_, upd_same, by omega, fun j c' hj hc' => ?_⟩
        · rw [upd_ne (h2H b o e n1)]
          exact kq b o e n1 n2
        · rw [upd_ne (Ne.symm h2p)]
          exact hpq
        · rw [upd_ne (Ne.symm hd2d)]
          exact hdq
        · rw [upd_ne (Ne.symm h21)]
          exact h1q
        · rw [valV_put]
          by_cases e : j = i
          · rw [e, hc] at hc'
            obtain rfl : c = c' := Option.some.inj hc'
            rw [if_pos rfl]
            exact ⟨S, rfl, hS⟩
          · rw [if_neg (fun z => ?_)]
            · exact hcl j c' (by omega) hc'
            · have hz : (c'.1 : Int) = c.1 := Sum.inl.inj z
              have h1 : (R.classes.map fun c => c.1)[j]? = some c'.1 := by rw [List.getElem?_map, hc']; rfl
              have h2 : (R.classes.map fun c => c.1)[i]? = some c.1 := by rw [List.getElem?_map, hc]; rfl
              have hz' : c'.1 = c.1 := by omega
              rw [hz'] at h1
              obtain ⟨l1, m1⟩ := List.getElem?_eq_some_iff.mp h1
              obtain ⟨l2, m2⟩ := List.getElem?_eq_some_iff.mp h2
              exact e ((List.getElem_inj hnd).mp (m1.trans m2.symm))
      · obtain ⟨k2, o3, o4, o5, rfl, kq, hpq, hdq, h1q, h2q, hlq, hcl⟩ := q
        refine ⟨hdq, k _ ⟨dx, d1, d2, B, E0, k1, k2, ?_, ?_, hG.c, ?_, fun n ⟨c, hc, e⟩ => ?_, hG.b, hG.e⟩ fun b o e n => ?_⟩
        · rw [upd_ne (Ne.symm hdp)]
          exact hpq
        · rw [upd_ne hd1d]
          exact h1q
        · rw [upd_ne hd2d]
          exact h2q
        · obtain ⟨j, hj⟩ := List.mem_iff_getElem?.mp hc
          have hjl : j < kvs.length := by
            rw [hP.length]
            exact (List.getElem?_eq_some_iff.mp hj).1
          obtain ⟨S, s1, s2⟩ := hcl j c hjl hj
          rw [← e]
          exact ⟨S, s1, s2.congr fun p => ⟨fun ⟨v, v1, v2⟩ => ⟨v, v1, by rw [inClass_is hnd hc]; exact v2⟩, fun ⟨v, v1, v2⟩ => ⟨v, v1, by rw [inClass_is hnd hc] at v2; exact v2⟩⟩⟩
        · by_cases z : b = d
          · rw [z, upd_same]
            rw [z, hd] at e
            exact e
          · rw [upd_ne z]
            exact kq b o e n z
end
end Sg

/-! SgRO -/
set_option Elab.async false
set_option linter.all false
set_option maxRecDepth 100000
set_option maxHeartbeats 4000000
namespace Sg
open PySem PySem.Spec PyProof.Rows L2
def RulesOk (R : Fh.Rules) : Prop := ClsOk R.classes ∧ ∀ r ∈ R.rules, RuleOk R r
end Sg

/-! SgWc -/
set_option Elab.async false
set_option linter.all false
set_option maxRecDepth 100000
set_option maxHeartbeats 4000000
namespace Sg
open PySem PySem.Spec PyProof.Rows L2
/-! ### places within paragraphs -/
/-- y lies within a paragraph, between its characters, and p holds there -/
def Within (ps : List (List Nat)) (y : Nat) (p : List Nat → Nat → Prop) : Prop := ∃ b cs o, Bg ps b cs ∧ 1 ≤ o ∧ o < cs.length ∧ y = b + o ∧ p cs o
theorem within_at {ps : List (List Nat)} {b o : Nat} {cs : List Nat} {p : List Nat → Nat → Prop} (h : Bg ps b cs) (h1 : 1 ≤ o) (h2 : o < cs.length) : Within ps (b + o) p ↔ p cs o := by
  constructor
  · rintro ⟨b', cs', o', g1, g2, g3, g4, g5⟩
    obtain ⟨_, rfl, rfl⟩ := bg_uniq h g1 (by omega) (by omega) g4
    exact g5
  · exact fun q => ⟨b, cs, o, h, h1, h2, rfl, q⟩
theorem within_map {ps : List (List Nat)} {y : Nat} {p q : List Nat → Nat → Prop} (h : Within ps y p) (k : ∀ b cs o, Bg ps b cs → 1 ≤ o → o < cs.length → y = b + o → p cs o → q cs o) : Within ps y q := by
  obtain ⟨b, cs, o, g1, g2, g3, g4, g5⟩ := h
  exact ⟨b, cs, o, g1, g2, g3, g4, k b cs o g1 g2 g3 g4 g5⟩
theorem inner_is {ps : List (List Nat)} {B E : Nat} (hB : BS B (fun p => ∃ cs, Bg ps p cs)) (hE : BS E (fun p => (jn ps)[p]? = some none)) :
    (B ||| E) ≤ 2 ^ (jn ps).length - 1 ∧ BS (2 ^ (jn ps).length - 1 - (B ||| E)) (fun y => Within ps y fun _ _ => True) := by
  obtain ⟨h1, h2⟩ := bs_sub (bs_mask (jn ps).length) (bs_or hB hE) (fun p hp => by
    rcases hp with ⟨cs, h⟩ | h
    · have := (bg_mem h).2
      omega
    · exact (List.getElem?_eq_some_iff.mp h).1)
  refine ⟨h1, h2.congr fun y => ?_⟩
  constructor
  · rintro ⟨a1, a2⟩
    obtain ⟨b, cs, o, g1, g2, rfl⟩ := bg_ex a1
    refine ⟨b, cs, o, g1, ?_, ?_, rfl, trivial⟩
    · cases o with
      | zero => exact absurd (.inl ⟨cs, g1⟩) a2
      | succ o => omega
    · by_cases q : o < cs.length
      · exact q
      · obtain rfl : o = cs.length := by omega
        exact absurd (.inr (end_iff.mpr ⟨b, cs, g1, rfl⟩)) a2
  · rintro ⟨b, cs, o, g1, g2, g3, rfl, _⟩
    have := (bg_mem g1).2
    refine ⟨by omega, ?_⟩
    rintro (⟨cs', h⟩ | h)
    · have := (bg_uniq (o := o) (o' := 0) g1 h (by omega) (Nat.zero_le _) (by omega)).2.2
      omega
    · rw [bg_get g1 o (by omega), List.getElem?_eq_getElem g3] at h
      cases h
/-- the first of the rules that says anything at o -/
def first (R : Fh.Rules) (l : List Fh.Rule) (cs : List Nat) (o : Nat) : Option Fh.Rule := l.find? fun r => Fh.fitsHere R r (cs.take o).reverse (cs.drop o)
theorem first_snoc (R : Fh.Rules) (l : List Fh.Rule) (r : Fh.Rule) (cs : List Nat) (o : Nat) : first R (l ++ [r]) cs o = match first R l cs o with
    | some u => some u
    | none => if Fh.fitsHere R r (cs.take o).reverse (cs.drop o) = true then some r else none := by
  unfold first
  rw [List.find?_append]
  cases l.find? (fun r => Fh.fitsHere R r (cs.take o).reverse (cs.drop o)) with
  | some u => rfl
  | none =>
    rw [Option.none_or, List.find?_cons]
    cases Fh.fitsHere R r (cs.take o).reverse (cs.drop o) <;> rfl
theorem cutP_first {R : Fh.Rules} {cs : List Nat} {o : Nat} (h1 : 1 ≤ o) (h2 : o < cs.length) : cutP R cs o = true ↔ ∃ r, first R R.rules cs o = some r ∧ r.cut = true := by
  unfold cutP Fh.cutsHere
  have n1 : (cs.take o).reverse.isEmpty = false := by
    rw [List.isEmpty_eq_false_iff]
    intro e
    have := congrArg List.length e
    rw [List.length_reverse, List.length_take, List.length_nil] at this
    omega
  have n2 : (cs.drop o).isEmpty = false := by
    rw [List.isEmpty_eq_false_iff]
    intro e
    have := congrArg List.length e
    rw [List.length_drop] at this
    simp at this
    omega
  rw [n1, n2]
  show (match first R R.rules cs o with
    | some r => r.cut
    | none => false) = true ↔ _
  cases first R R.rules cs o with
  | none => exact ⟨fun h => (by cases h), fun ⟨r, h, _⟩ => (by cases h)⟩
  | some r => exact ⟨fun h => ⟨r, rfl, h⟩, fun ⟨u, h, h2⟩ => (by rw [Option.some.inj h]; exact h2)⟩
/-- the set of the cuts of all paragraphs -/
def CutS (R : Fh.Rules) (ps : List (List Nat)) (C : Nat) : Prop := ∀ b cs o, Bg ps b cs → 1 ≤ o → o < cs.length → (C.testBit (b + o) = true ↔ cutP R cs o = true)
section
variable {P : Program} {w : World} {K : PySem.W.Frag} {mg : Str → Option Value} {base : Heap} {CA CI CU CS : Addr}
/-! ### where_cut -/
def spWCut (CA CI CU : Addr) : Sp := fun vs H Q _ => ∃ (x a : Addr) (R : Fh.Rules) (ps : List (List Nat)) (F : Addr → Prop) (xs : List Addr), vs = [.ref x, .ref a] ∧ PaAt CA H x R ps ∧ (jn ps).length ≤ 300000 ∧ H a = some (.lst (xs.map V.ref)) ∧ Paired (RuAt CU CI F H) xs R.rules ∧
  (∀ r ∈ R.rules, RuleOk R r) ∧ ∀ (C : Nat) (H' : Hp), CutS R ps C → Same H H' → Q (.int (C : Nat)) H'
theorem scWCut : FnScope ["self", "rules", "undecided", "cuts", "rule", "decided"] ["self", "rules"] (defScope sWCut) := ⟨rfl, rfl, rfl, by decide +kernel, rfl, by decide +kernel, by decide +kernel⟩
theorem ok_wCut {f : Addr} {fd : FuncData} (F : Fun K "where_cut" "Paragraphs.where_cut" sWCut f fd) (T : TxA K mg CA) (TU : TxU K CU) (GS : MethOk P w K mg base CX0 5 CA "where_says" ["self", "rule"] (spSays CA CI CU)) :
    FnOk P w K mg base CX0 6 f fd ["self", "rules"] (spWCut CA CI CU) := by
  refine F.ok scWCut (fun vs H Q E h => ?_) (fun cdv A outer s H vs Q E hr h => ?_)
  · obtain ⟨x, a, R, ps, G, xs, rfl, _⟩ := h
    rfl
  · obtain ⟨x, a, R, ps, G, xs, rfl, hPa, hn, hl, hP, okR, k⟩ := h
    obtain ⟨dx, d1, d2, B0, E0, k1, k2, hx, _, _, _, _, hB0, hE0⟩ := id hPa
    refine ⟨_, pss_cons (ps_set (i := 2) scWCut.nd rfl (Or.inl rfl) (pe_op op_subN (pe_fld (pv 0) rfl) (pe_op op_orNat (pe_fld (pv 0) rfl) (pe_fld (pv 0) rfl))))
      (pss_cons (ps_set (i := 3) scWCut.nd rfl (Or.inl rfl) pe_int)
      (pss_cons (ps_for PassesOwn.never rfl (pi_list (pv 1)) (pg_name (i := 4) scWCut.nd rfl (Or.inl rfl))
        (pss_cons (ps_set (i := 5) scWCut.nd rfl (Or.inl rfl) (pe_op op_andNat (pv 2) (pe_m GS T.cl hr pass0 (pv 0) (by exact (pa_cons (pv 4) pa_nil)))))
        (pss_cons (ps_if (pt_val (pe_fld (pv 4) rfl)) (pss_one (ps_set (i := 3) scWCut.nd rfl (Or.inl rfl) (pe_op op_orNat (pv 3) (pv 5)))) pss_nil)
        (pss_one (ps_set (i := 2) scWCut.nd rfl (Or.inl rfl) (pe_op op_subN (pv 2) (pv 5)))))))
      (pss_one (ps_ret (pv 3))))), ?_⟩
    obtain ⟨hle0, hU0⟩ := inner_is hB0 hE0
    refine ⟨_, rfl, x, CA, dx, _, _, rfl, hx, T.cl, T.n5, paF_5 _ _ _ _ _, _, rfl, x, CA, dx, _, _, rfl, hx, T.cl, T.n1, paF_1 _ _ _ _ _, _, rfl, x, CA, dx, _, _, rfl, hx, T.cl, T.n4, paF_4 _ _ _ _ _, _, _, rfl, rfl, _, _, rfl, rfl, hle0, ?_⟩
    refine ⟨_, rfl, a, rfl, ⟨_, SqL.of hl⟩, ?_⟩
    refine for_list (xs := xs.map V.ref) (fun j σ H2 => ∃ (U C : Nat) (o1 o2 : Option V), σ = [some (.ref x), some (.ref a), some (.int (U : Nat)), some (.int (C : Nat)), o1, o2] ∧ Same H H2 ∧
        BS U (fun y => Within ps y fun cs o => first R (R.rules.take j) cs o = none) ∧ BS C (fun y => Within ps y fun cs o => ∃ r, first R (R.rules.take j) cs o = some r ∧ r.cut = true))
      ⟨_, 0, none, none, rfl, Same.refl _, hU0.congr fun y => ⟨fun h => within_map h fun _ _ _ _ _ _ _ _ => rfl, fun h => within_map h fun _ _ _ _ _ _ _ _ => trivial⟩, bs_zero.congr fun y => ⟨fun h => h.elim, fun ⟨_, _, _, _, _, _, _, r, h, _⟩ => by cases h⟩⟩ (fun j σ H2 _ hp => ?_) (fun j v σ H2 hv hp => ?_) (fun σ H2 hp => ?_)
    · obtain ⟨U, C, o1, o2, rfl, s4, hU, hC⟩ := hp
      exact SqL.of (s4 _ _ hl)
    · obtain ⟨U, C, o1, o2, rfl, s4, hU, hC⟩ := hp
      rw [List.getElem?_map] at hv
      cases hy : xs[j]? with
      | none => rw [hy] at hv; cases hv
      | some y =>
        rw [hy] at hv
        obtain rfl : V.ref y = v := Option.some.inj hv
        obtain ⟨r, hrj, hRu⟩ := paired_get hP hy
        have okr := okR r (List.mem_of_getElem? hrj)
        have hRu2 := hRu.keep fun c o _ e => s4 c o e
        refine ⟨_, rfl, _, rfl, x, dx, _, rfl, s4 _ _ hx, paF_no _ _ _ _ _, _, rfl, x, y, R, ps, r, G, rfl, hPa.same s4, hn, hRu2, okr, fun S H3 hS s5 => ⟨U, S, rfl, rfl, ?_⟩⟩
        obtain ⟨_, dxr, lb, lh, hru, _⟩ := hRu2.keep fun c o _ e => s5 c o e
        have ht : R.rules.take (j + 1) = R.rules.take j ++ [r] := by
          rw [List.take_add_one, hrj]
          rfl
        have hS' : ∀ b cs o, Bg ps b cs → 1 ≤ o → o < cs.length → (S.testBit (b + o) = true ↔ Fh.fitsHere R r (cs.take o).reverse (cs.drop o) = true) := fun b cs o g1 g2 g3 => by
          rw [hS (b + o), says_at g1 (by omega) (fun i hi => (okr.1 i hi).1) (fun i hi => (okr.2 i hi).1), fits_is (by omega)]
        have hdec : BS (U &&& S) (fun z => Within ps z fun cs o => first R (R.rules.take j) cs o = none ∧ Fh.fitsHere R r (cs.take o).reverse (cs.drop o) = true) := fun z => by
          rw [Nat.testBit_and, Bool.and_eq_true, hU z]
          constructor
          · rintro ⟨h1, h2⟩
            exact within_map h1 fun b cs o g1 g2 g3 g4 g5 => ⟨g5, (hS' b cs o g1 g2 g3).mp (g4 ▸ h2)⟩
          · rintro ⟨b, cs, o, g1, g2, g3, rfl, g5, g6⟩
            exact ⟨⟨b, cs, o, g1, g2, g3, rfl, g5⟩, (hS' b cs o g1 g2 g3).mpr g6⟩
        obtain ⟨hle, hsub⟩ := bs_sub hU hdec (fun z h => within_map h fun _ _ _ _ _ _ _ q => q.1)
        have hU2 : BS (U - (U &&& S)) (fun y => Within ps y fun cs o => first R (R.rules.take (j + 1)) cs o = none) := hsub.congr fun z => by
          constructor
          · rintro ⟨⟨b, cs, o, g1, g2, g3, rfl, g5⟩, h3⟩
            refine ⟨b, cs, o, g1, g2, g3, rfl, ?_⟩
            have g5 : first R (R.rules.take j) cs o = none := g5
            show first R (R.rules.take (j + 1)) cs o = none
            rw [ht, first_snoc, g5]
            dsimp only
            rw [if_neg fun q => h3 ⟨b, cs, o, g1, g2, g3, rfl, g5, q⟩]
          · rintro ⟨b, cs, o, g1, g2, g3, rfl, g5⟩
            have g5 : first R (R.rules.take (j + 1)) cs o = none := g5
            rw [ht, first_snoc] at g5
            cases e : first R (R.rules.take j) cs o with
            | some u => rw [e] at g5; cases g5
            | none =>
              rw [e] at g5
              refine ⟨⟨b, cs, o, g1, g2, g3, rfl, e⟩, fun h => ?_⟩
              have h3 := ((within_at g1 g2 g3).mp h).2
              dsimp only at g5
              rw [if_pos h3] at g5
              cases g5
        refine ⟨_, rfl, y, CU, dxr, _, _, rfl, hru, TU.cl, TU.n1, ruF_1 _ _ _ _ _, _, rfl, ?_⟩
        cases hcut : r.cut with
        | true =>
          refine iteT ⟨_, rfl, _, rfl, C, U &&& S, rfl, rfl, ?_⟩
          refine ⟨_, rfl, _, rfl, U, U &&& S, rfl, rfl, hle, _, _, _, _, rfl, s4.trans s5, hU2, (bs_or hC hdec).congr fun z => ?_⟩
          constructor
          · rintro (h | h)
            · exact within_map h fun b cs o _ _ _ _ ⟨u, h2, h3⟩ => ⟨u, by rw [ht, first_snoc, h2], h3⟩
            · exact within_map h fun b cs o _ _ _ _ ⟨h2, h3⟩ => ⟨r, by rw [ht, first_snoc, h2]; dsimp only; rw [if_pos h3], hcut⟩
          · rintro ⟨b, cs, o, g1, g2, g3, g4, u, h2, h3⟩
            rw [ht, first_snoc] at h2
            cases e : first R (R.rules.take j) cs o with
            | some u' =>
              rw [e] at h2
              exact .inl ⟨b, cs, o, g1, g2, g3, g4, u', e, by rw [Option.some.inj h2]; exact h3⟩
            | none =>
              rw [e] at h2
              dsimp only at h2
              by_cases q : Fh.fitsHere R r (cs.take o).reverse (cs.drop o) = true
              · exact .inr ⟨b, cs, o, g1, g2, g3, g4, e, q⟩
              · rw [if_neg q] at h2
                cases h2
        | false =>
          refine iteF ⟨_, rfl, _, rfl, U, U &&& S, rfl, rfl, hle, _, _, _, _, rfl, s4.trans s5, hU2, hC.congr fun z => ?_⟩
          constructor
          · exact fun h => within_map h fun b cs o _ _ _ _ ⟨u, h2, h3⟩ => ⟨u, by rw [ht, first_snoc, h2], h3⟩
          · rintro ⟨b, cs, o, g1, g2, g3, g4, u, h2, h3⟩
            rw [ht, first_snoc] at h2
            cases e : first R (R.rules.take j) cs o with
            | some u' =>
              rw [e] at h2
              exact ⟨b, cs, o, g1, g2, g3, g4, u', e, by rw [Option.some.inj h2]; exact h3⟩
            | none =>
              rw [e] at h2
              dsimp only at h2
              by_cases q : Fh.fitsHere R r (cs.take o).reverse (cs.drop o) = true
              · rw [if_pos q] at h2
                rw [← Option.some.inj h2, hcut] at h3
                cases h3
              · rw [if_neg q] at h2
                cases h2
    · obtain ⟨U, C, o1, o2, rfl, s4, hU, hC⟩ := hp
      rw [List.length_map, hP.length, List.take_length] at hC
      refine ⟨_, rfl, k C H2 (fun b cs o g1 g2 g3 => ?_) s4⟩
      exact (hC (b + o)).trans ((within_at g1 g2 g3).trans (cutP_first g2 g3).symm)
end
end Sg

/-! SgPa9 -/
set_option Elab.async false
set_option linter.all false
set_option maxRecDepth 100000
set_option maxHeartbeats 4000000
namespace Sg
open PySem PySem.Spec PyProof.Rows L2
/-- lists of numbers in a list -/
def NsL (F : Addr → Prop) (H : Hp) (a : Addr) (ls : List (List Nat)) : Prop := F a ∧ ∃ ts : List Addr, H a = some (.lst (ts.map V.ref)) ∧ Paired (fun (t : Addr) (l : List Nat) => F t ∧ H t = some (.lst (nvs l))) ts ls
theorem NsL.keep {F : Addr → Prop} {H H' : Hp} {a : Addr} {ls : List (List Nat)} (h : NsL F H a ls) (g : ∀ b o, F b → H b = some o → H' b = some o) : NsL F H' a ls := by
  obtain ⟨h1, ts, h2, h3⟩ := h
  exact ⟨h1, ts, g _ _ h1 h2, h3.mono fun _ _ z => ⟨z.1, g _ _ z.1 z.2⟩⟩
/-- the cuts that are left behind some paragraphs -/
theorem cutS_next {R : Fh.Rules} {c : List Nat} {ps : List (List Nat)} {C : Nat} (h : CutS R (c :: ps) C) : (∀ o, 1 ≤ o → o < c.length → (C.testBit o = true ↔ cutP R c o = true)) ∧ CutS R ps (C / 2 ^ (c.length + 1)) := by
  constructor
  · intro o h1 h2
    have := h 0 c o (.inl ⟨rfl, rfl⟩) h1 h2
    rw [Nat.zero_add] at this
    exact this
  · intro b cs o g h1 h2
    have := h (b + c.length + 1) cs o (.inr ⟨by omega, by rw [show b + c.length + 1 - c.length - 1 = b by omega]; exact g⟩) h1 h2
    rw [Nat.testBit_div_two_pow, show b + o + (c.length + 1) = b + c.length + 1 + o by omega]
    exact this
theorem rg_nvs (n : Nat) : rgV 1 (n : Nat) = nvs (List.range' 1 (n - 1)) := by
  unfold rgV nvs
  rw [List.range'_eq_map_range, List.map_map, show (((n : Nat) : Int) - 1).toNat = n - 1 by omega]
  refine List.map_congr_left fun i _ => ?_
  show V.int (1 + (i : Int)) = V.int ((1 + i : Nat) : Int)
  rw [Int.natCast_add]
  rfl
section
variable {P : Program} {w : World} {K : PySem.W.Frag} {mg : Str → Option Value} {base : Heap} {CA CI CU CS : Addr}
/-! ### cut_places -/
def spCuts (CS CU CI : Addr) : Sp := fun vs H Q _ => ∃ (a x : Addr) (R : Fh.Rules) (ps : List (List Nat)) (F : Addr → Prop), vs = [.ref a, .ref x] ∧ PgL H a ps ∧ (jn ps).length ≤ 300000 ∧ RsAt CS CU CI F H x R ∧ RulesOk R ∧
  ∀ (H' : Hp) (p : Addr), Same H H' → NsL (Fresh H) H' p (ps.map (cutPl R)) → Q (.ref p) H'
theorem scCuts : FnScope ["paragraphs", "rule_set", "cuts", "found", "characters", "place"] ["paragraphs", "rule_set"] (defScope sCuts) := ⟨rfl, rfl, rfl, by decide +kernel, rfl, by decide +kernel, by decide +kernel⟩
theorem ok_cuts {f : Addr} {fd : FuncData} (F : Fun K "cut_places" "cut_places" sCuts f fd) (T : TxA K mg CA) (TP : TxP K CS) (TN : TxN mg) (GP : NewOk P w K mg base 4 "Paragraphs" CA ["self", "paragraphs", "classes"] (spPaI CA))
    (GW : MethOk P w K mg base CX0 6 CA "where_cut" ["self", "rules"] (spWCut CA CI CU)) : FnOk P w K mg base CX0 7 f fd ["paragraphs", "rule_set"] (spCuts CS CU CI) := by
  refine F.ok scCuts (fun vs H Q E h => ?_) (fun cdv A outer s H vs Q E hr h => ?_)
  · obtain ⟨a, x, R, ps, G, rfl, _⟩ := h
    rfl
  · obtain ⟨a, x, R, ps, G, rfl, ha, hn, ⟨dx, d, l, hx, hCl, hc16, xs, hl, hP⟩, ⟨okC, okR⟩, k⟩ := h
    have hr5 : Room 5 (A.deeper (envOfC (Str.ofString "cut_places") (defScope sCuts) s.heap.objs.size f cdv)) := hr.mono (by decide)
    refine ⟨_, pss_cons (ps_set (i := 2) scCuts.nd rfl (Or.inr rfl) (pe_m GW T.cl hr pass0 (pe_mk GP hr5 (by rfl) (by exact (pa_cons (pv 0) (pa_cons (pe_fld (pv 1) rfl) pa_nil)))) (by exact (pa_cons (pe_fld (pv 1) rfl) pa_nil))))
      (pss_cons (ps_set (i := 3) scCuts.nd rfl (Or.inl rfl) (pe_lst pa_nil))
      (pss_cons (ps_for PassesOwn.never rfl (pi_list (pv 0)) (pg_name (i := 4) scCuts.nd rfl (Or.inl rfl))
        (pss_cons (ps_expr (pe_bm PySem.F.plainAttrs_list PySem.F.slot_list_append PySem.F.type_list_append mt_append (pv 3) (pa_cons
          (pe_lc (own := [("place", 5)]) (g := gName 5) (tt := tTest (tOp rEq (tOp rAndN (tOp rShrN (tVar 2) (tVar 5)) (tC (.int 1))) (tC (.int 1)))) (te := tVar 5) rfl scCuts.nd (pi_range2 (by rfl) T.range (pa_cons pe_int (pa_cons (pe_callB call_len_seq (by rfl) TN.len PySem.boot_len (pa_cons (pv 4) pa_nil)) pa_nil))) (blkOk_by (N := ["paragraphs", "rule_set", "cuts", "found", "characters", "place"]) (sc := defScope sCuts) (by decide +kernel))
            (fun _ _ _ _ _ => pg_name (i := 5) scCuts.nd rfl (Or.inl rfl)) (fun _ _ _ _ _ => pts_one (by exact (pt_cmpR op_eq (pe_op op_andNat (pe_op op_shrNat (pv 2) (pv 5)) pe_int) pe_int (nomark _)))) (fun _ _ _ _ _ => by exact (pv 5))) pa_nil)))
        (pss_one (ps_set (i := 2) scCuts.nd rfl (Or.inr rfl) (pe_op op_shrNat (pv 2) (pe_op op_addN (pe_callB call_len_seq (by rfl) TN.len PySem.boot_len (pa_cons (pv 4) pa_nil)) pe_int))))))
      (pss_one (ps_ret (pv 3))))), ?_⟩
    have hlk1 : (rsF (.ref d) (.ref l)).lookup ("classes" : Str) = some (.ref d) := lk_here
    have hlk2 : (rsF (.ref d) (.ref l)).lookup ("rules" : Str) = some (.ref l) := (lk_past (by decide +kernel)).trans lk_here
    refine ⟨_, rfl, _, rfl, x, CS, dx, _, _, rfl, hx, TP.cl, TP.n1, hlk1, fun p dxp np ndx nne => ?_⟩
    have s0 : Same H (upd (upd H dxp (.own p)) p (.ins CA dxp [])) := fun b o e => by
      rw [upd_ne (ne_of_none e np), upd_ne (ne_of_none e ndx)]
      exact e
    refine ⟨p, dxp, a, d, R, ps, G, rfl, upd_same, ha.keep s0, hn, hCl.keep fun b o _ e => s0 b o e, hc16, okC, fun H1 hPa hK => ⟨rfl, ?_⟩⟩
    have s1 : Same H H1 := fun c o e => hK c o (s0 c o e) (ne_of_none e np)
    obtain ⟨dx1, _, _, _, _, _, _, hp1, _⟩ := id hPa
    refine ⟨p, dx1, _, rfl, hp1, paF_no _ _ _ _ _, _, rfl, x, CS, dx, _, _, rfl, s1 _ _ hx, TP.cl, TP.n2, hlk2, p, l, R, ps, G, xs, rfl, hPa, hn, s1 _ _ hl, hP.mono fun _ _ z => z.keep fun c o _ e => s1 c o e, okR, fun C H2 hC s2 => ?_⟩
    refine ⟨(by show 0 ≤ sizeLine; decide), fun L hL => ?_⟩
    have sL : Same H2 (upd H2 L (.lst [])) := same_new hL
    have s12 : Same H H2 := s1.trans s2
    obtain ⟨ts, hta, hts⟩ := id ha
    have old : ∀ {H5 : Hp}, Kp L (upd H2 L (.lst [])) H5 → Same H H5 := fun kp b o e => kp b o (sL _ _ (s12 b o e)) (ne_of_none (s12 b o e) hL)
    have hLH : H L = none := s12.free hL
    have h9k : (300001 : Nat) < sizeLine := by decide
    have hpl : ps.length ≤ (jn ps).length := by
      have : ∀ qs : List (List Nat), qs.length ≤ (jn qs).length := fun qs => by
        induction qs with
        | nil => exact Nat.le_refl _
        | cons c qs ih => rw [jn_len, List.length_cons]; omega
      exact this ps
    refine ⟨_, rfl, a, rfl, ⟨_, SqL.of (sL _ _ (s12 _ _ hta))⟩, ?_⟩
    refine for_list (xs := ts.map V.ref) (fun j σ H5 => ∃ (Cj : Nat) (o : Option V) (us : List Addr), σ = [some (.ref a), some (.ref x), some (.int (Cj : Nat)), some (.ref L), o, none] ∧ CutS R (ps.drop j) Cj ∧ Kp L (upd H2 L (.lst [])) H5 ∧ H5 L = some (.lst (us.map V.ref)) ∧
        Paired (fun (t : Addr) (l : List Nat) => Fresh H t ∧ t ≠ L ∧ H5 t = some (.lst (nvs l))) us ((ps.take j).map (cutPl R)))
      ⟨C, none, [], rfl, hC, Kp.refl _ _, upd_same, .nil⟩ (fun j σ H5 _ hq => ?_) (fun j v σ H5 hv hq => ?_) (fun σ H5 hq => ?_)
    · obtain ⟨Cj, o, us, rfl, _, kp, _⟩ := hq
      exact SqL.of (old kp _ _ hta)
    · obtain ⟨Cj, o, us, rfl, hCj, kp, hLs, hus⟩ := hq
      have s5 : Same H H5 := old kp
      rw [List.getElem?_map] at hv
      cases ht : ts[j]? with
      | none => rw [ht] at hv; cases hv
      | some t0 =>
        rw [ht] at hv
        obtain rfl : V.ref t0 = v := Option.some.inj hv
        obtain ⟨c, hc, hT⟩ := paired_get hts ht
        have hjl : j < ps.length := (List.getElem?_eq_some_iff.mp hc).1
        have hdr : ps.drop j = c :: ps.drop (j + 1) := by
          rw [List.drop_eq_getElem_cons hjl, (List.getElem?_eq_some_iff.mp hc).2]
        rw [hdr] at hCj
        obtain ⟨hc1, hc2⟩ := cutS_next hCj
        have hcl : c.length ≤ 300000 := by
          have h1 := jn_take_le ps (j + 1)
          rw [jn_take hc, jn_snoc_len] at h1
          omega
        have hT5 := s5 _ _ hT
        have ulen : us.length = j := by
          rw [hus.length, List.length_map, List.length_take]
          omega
        refine ⟨_, rfl, .inl ⟨rfl, _, SqL.of hLs⟩, _, rfl, t0, _, rfl, .inl (SqL.of hT5), 1, _, rfl, ⟨by omega, by omega, ?_, ?_⟩, fun D hD => ?_⟩
        · rw [nvs_len]
          omega
        · rw [nvs_len]
          omega
        rw [show (((nvs c).length : Nat) - 1 : Int).toNat = c.length - 1 by rw [nvs_len]; omega]
        refine lc_range (lo := 1) (n := c.length - 1) (fun i H6 => Same H5 H6 ∧ H6 D = some (.lst (nvs (((List.range' 1 (c.length - 1)).take i).filter (cutP R c)))))
          ⟨same_new hD, upd_same⟩ (fun i H6 hi hp => ?_) (fun H6 hp => ?_)
        · obtain ⟨sp3, hp3⟩ := hp
          have ez : ((1 : Int) + (i : Nat)) = ((1 + i : Nat) : Int) := by omega
          rw [ez]
          have hz4 : 1 ≤ 1 + i ∧ 1 + i < c.length := by omega
          have htk : (List.range' 1 (c.length - 1)).take (i + 1) = (List.range' 1 (c.length - 1)).take i ++ [1 + i] := by
            rw [List.take_add_one, List.getElem?_range' hi, Nat.one_mul]
            rfl
          refine ⟨rfl, _, rfl, _, rfl, Cj, 1 + i, rfl, rfl, Cj / 2 ^ (1 + i), 1, rfl, rfl, rfl, _, rfl, ?_⟩
          rw [bit_one]
          by_cases qc : cutP R c (1 + i) = true
          · rw [if_pos ((hc1 _ hz4.1 hz4.2).mpr qc)]
            refine iteT ⟨_, rfl, _, hp3, ?_, fun c' o e => ?_, ?_⟩
            · rw [nvs_len]
              have h1 := List.length_filter_le (cutP R c) ((List.range' 1 (c.length - 1)).take i)
              rw [List.length_take] at h1
              omega
            · rw [upd_ne (ne_of_none e hD)]
              exact sp3 c' o e
            · rw [upd_same, htk, List.filter_append, List.filter_cons, if_pos qc]
              unfold nvs
              rw [List.map_append]
              rfl
          · rw [if_neg (fun h => qc ((hc1 _ hz4.1 hz4.2).mp h))]
            refine iteF ⟨sp3, ?_⟩
            rw [htk, List.filter_append, List.filter_cons, if_neg qc, List.filter_nil, List.append_nil]
            exact hp3
        · obtain ⟨sp3, hp3⟩ := hp
          rw [List.take_of_length_le (by rw [List.length_range']; omega)] at hp3
          have hL6 := sp3 _ _ hLs
          have hDL : D ≠ L := fun z => by
            rw [z, hLs] at hD
            cases hD
          refine ⟨L, _, _, rfl, rfl, hL6, ?_, _, rfl, _, rfl, t0, nvs c, rfl, .inl (SqL.of ?_), c.length, 1, ?_, rfl, Cj, c.length + 1, rfl, rfl, Cj / 2 ^ (c.length + 1), some (.ref t0), us ++ [D], rfl, hc2, fun b o e n => ?_, ?_, ?_⟩
          · rw [List.length_map]
            omega
          · rw [upd_ne (ne_of_none (s12 _ _ hT) hL)]
            exact sp3 _ _ hT5
          · rw [nvs_len]
          · rw [upd_ne n]
            exact sp3 _ _ (kp b o e n)
          · rw [upd_same, List.map_append]
            rfl
          · rw [show ps.take (j + 1) = ps.take j ++ [c] from jn_take hc, List.map_append]
            refine paired_snoc (hus.mono fun u z hz => ⟨hz.1, hz.2.1, by
              rw [upd_ne hz.2.1]
              exact sp3 _ _ hz.2.2⟩) ⟨s5.free hD, hDL, ?_⟩
            rw [upd_ne hDL]
            exact hp3
    · obtain ⟨Cj, o, us, rfl, hCj, kp, hLs, hus⟩ := hq
      rw [List.length_map, hts.length, List.take_length] at hus
      exact ⟨_, rfl, k H5 L (old kp) ⟨hLH, us, hLs, hus.mono fun u z hz => ⟨hz.1, hz.2.2⟩⟩⟩
end
end Sg

/-! SgSt2 -/
set_option Elab.async false
set_option linter.all false
set_option maxRecDepth 100000
set_option maxHeartbeats 4000000
namespace Sg
open PySem PySem.Spec PyProof.Rows L2
theorem cutPl_le (R : Fh.Rules) (cs : List Nat) : (cutPl R cs).length ≤ cs.length := by
  unfold cutPl
  have := List.length_filter_le (cutP R cs) (List.range' 1 (cs.length - 1))
  rw [List.length_range'] at this
  omega
theorem tagK_isC {p : Fh.Piece} : decide (V.int (tagK p : Nat) = V.int 0) = isC p := by
  cases p <;> rfl
theorem cuts_len (R : Fh.Rules) (r : Fh.Row) : (Fh.cutsOf R r).length ≤ r.length := by
  rw [cutsOf_at, List.length_map]
  exact Nat.le_trans (cutPl_le R _) (chars_len r)
theorem pairs_len (n : Nat) : ∀ (l : List Nat) (a : Nat), (pairsFrom n a l).length = l.length + 1
  | [], a => rfl
  | c :: l, a => by
    show (pairsFrom n c l).length + 1 = _
    rw [pairs_len n l c, List.length_cons]
section
variable {P : Program} {w : World} {K : PySem.W.Frag} {mg : Str → Option Value} {base : Heap} {CA CI CU CS CW CQ : Addr}
/-! ### stretches -/
def spStr (CQ CW : Addr) (K : PySem.W.Frag) : Sp := fun vs H Q _ => ∃ (x y a0 : Addr) (b0 : Fh.Bytes) (f0 : Nat) (r : Fh.Row) (R : Fh.Rules) (G : Addr → Prop), vs = [.ref x, .ref y] ∧ RowO CW K G H x a0 b0 f0 r ∧ r.length ≤ 4096 ∧ H y = some (.lst (nvs (cutPl R (Fh.charsOf r)))) ∧
  ∀ (H' : Hp) (D : Addr), Same H H' → PtsAt CQ (fun c => Fresh H c ∨ G c) H' D ((pairsFrom r.length 0 (Fh.cutsOf R r)).map (pcOf r)) → Q (.ref D) H'
theorem scStr : FnScope ["row", "cuts", "at", "found", "first", "cut", "behind", "place", "piece"] ["row", "cuts"] (defScope sStr) := ⟨rfl, rfl, rfl, by decide +kernel, rfl, by decide +kernel, by decide +kernel⟩
theorem ok_str {f : Addr} {fd : FuncData} (F : Fun K "stretches" "stretches" sStr f fd) (TW : TxW mg) (TN : TxN mg) (TG : TxG K mg) (TO : TxO K CW) (GB : CallOk P w K mg base CX0 2 "cut_behind" ["pieces", "place"] (spCutB K))
    (GQ : NewOk P w K mg base 2 "Part" CQ ["self", "row", "first", "behind"] (spPartI CQ CW K)) : FnOk P w K mg base CX0 4 f fd ["row", "cuts"] (spStr CQ CW K) := by
  refine F.ok scStr (fun vs H Q E h => ?_) (fun cdv A outer s H vs Q E hr h => ?_)
  · obtain ⟨x, y, a0, b0, f0, r, R, G, rfl, _⟩ := h
    rfl
  · obtain ⟨x, y, a0, b0, f0, r, R, G, rfl, hRow, hr4, hy, k⟩ := h
    obtain ⟨_, dxo, lo, so, hxo, hLo, _, _, _, _⟩ := id hRow
    obtain ⟨_, ys, hys, hP⟩ := id hLo
    have hr2 : Room 2 (A.deeper (envOfC (Str.ofString "stretches") (defScope sStr) s.heap.objs.size f cdv)) := hr.mono (by decide)
    refine ⟨_, pss_cons (ps_setLc (i := 2) (own := [("place", 7), ("piece", 8)]) (g := gTup K 2 (gCons (gName 7) (gCons (gName 8) gNil))) (tt := tTest (tOp rEq (tOp (rIxT K) (tVar 8) (tC (.int 0))) (tC (.int 0)))) (te := tVar 7) (by rfl) scStr.nd rfl rfl (sw_true rfl rfl rfl (by decide +kernel)) (pi_enum (by rfl) TG.en (pa_cons (pe_fld (pv 0) rfl) pa_nil)) (blkOk_by (N := ["row", "cuts", "at", "found", "first", "cut", "behind", "place", "piece"]) (sc := defScope sStr) (by decide +kernel))
          (fun _ _ _ _ _ => pg_tup rfl (pgs_cons (pg_name (i := 7) scStr.nd rfl (Or.inl rfl)) (pgs_cons (pg_name (i := 8) scStr.nd rfl (Or.inl rfl)) pgs_nil))) (fun _ _ _ _ _ => pts_one (by exact (pt_cmpR op_eq (pe_ix ix_tup (pv 8) pe_int (fun _ _ => rfl)) (pe_k TW.char (by rfl)) (nomark _)))) (fun _ _ _ _ _ => by exact (pv 7)))
      (pss_cons (ps_set (i := 3) scStr.nd rfl (Or.inl rfl) (pe_lst pa_nil))
      (pss_cons (ps_set (i := 4) scStr.nd rfl (Or.inl rfl) pe_int)
      (pss_cons (ps_for PassesOwn.never rfl (pi_list (pv 1)) (pg_name (i := 5) scStr.nd rfl (Or.inl rfl))
        (pss_cons (ps_set (i := 6) scStr.nd rfl (Or.inl rfl) (pe_c GB hr2 (by rfl) pass0 (by exact (pa_cons (pe_fld (pv 0) rfl) (pa_cons (pe_ix ix_list (pv 2) (pe_op op_sub (pv 5) pe_int) (fun _ _ => rfl)) pa_nil)))))
        (pss_cons (ps_expr (pe_bm PySem.F.plainAttrs_list PySem.F.slot_list_append PySem.F.type_list_append mt_append (pv 3) (pa_cons (pe_mk GQ hr (by rfl) (by exact (pa_cons (pv 0) (pa_cons (pv 4) (pa_cons (pv 6) pa_nil))))) pa_nil)))
        (pss_one (ps_set (i := 4) scStr.nd rfl (Or.inl rfl) (pv 6))))))
      (pss_cons (ps_expr (pe_bm PySem.F.plainAttrs_list PySem.F.slot_list_append PySem.F.type_list_append mt_append (pv 3) (pa_cons (pe_mk GQ hr (by rfl) (by exact (pa_cons (pv 0) (pa_cons (pv 4) (pa_cons (pe_callB call_len_seq (by rfl) TN.len PySem.boot_len (pa_cons (pe_fld (pv 0) rfl) pa_nil)) pa_nil))))) pa_nil)))
      (pss_one (ps_ret (pv 3))))))), ?_⟩
    have h9k : (9000 : Nat) < sizeLine := by decide
    refine ⟨_, rfl, x, CW, dxo, _, _, rfl, hxo, TO.cl, TO.n2, woF_2 _ _ _, lo, ys.map V.ref, rfl, SqL.of hys, fun D hD => ?_⟩
    refine lc_it (walk_enum (xs := ys.map V.ref)) (fun i H' => Same H H' ∧ H' D = some (.lst (nvs (atOf (r.take i)))))
      ⟨same_new hD, upd_same⟩ (fun i H' _ hp => SqL.of (hp.1 _ _ hys)) (fun i v H' H2 hi hp hY => ?_) (fun H' hp => ?_)
    · obtain ⟨s1, hl⟩ := hp
      obtain ⟨t, x1, y1, rfl, hT, rfl, f1, f2⟩ := hY
      obtain rfl : V.int (i : Nat) = x1 := Option.some.inj f1
      replace f2 : (ys.map V.ref)[i]? = some y1 := f2
      rw [List.getElem?_map] at f2
      cases hz : ys[i]? with
      | none => rw [hz] at f2; cases f2
      | some z =>
        rw [hz] at f2
        obtain rfl : V.ref z = y1 := Option.some.inj f2
        obtain ⟨pc, hpc, _, hZ⟩ := paired_get hP hz
        have hir : i < r.length := (List.getElem?_eq_some_iff.mp hpc).1
        have htk : r.take (i + 1) = r.take i ++ [pc] := by
          rw [List.take_add_one, hpc]
          rfl
        have hat : atOf (r.take (i + 1)) = atOf (r.take i) ++ if isC pc = true then [i] else [] := by
          rw [htk, at_snoc, List.length_take, Nat.min_eq_left (by omega)]
        have hal : (atOf (r.take i)).length ≤ i := by
          have e : (atOf (r.take i)).length = (Fh.charsOf (r.take i)).length := atFrom_len _ 0
          have := chars_len (r.take i)
          rw [List.length_take] at this
          omega
        have s2 : Same H' (upd H' t (.tup [.int (i : Nat), .ref z])) := same_new hT
        have hl2 : upd H' t (.tup [.int (i : Nat), .ref z]) D = some (.lst (nvs (atOf (r.take i)))) := s2 _ _ hl
        refine ⟨t, _, rfl, .inl (.inl upd_same), rfl, _, _, rfl, _, _, rfl, rfl, rfl, ?_⟩
        refine ⟨_, rfl, z, _, _, _, rfl, rfl, .inl (.inl (s2 _ _ (s1 _ _ hZ))), (show atI _ ((0 : Nat) : Int) = some (V.int (tagK pc : Nat)) from atI_nat rfl), rfl, _, rfl, ?_⟩
        show if decide (V.int (tagK pc : Nat) = V.int 0) = true then _ else _
        rw [tagK_isC]
        cases hc : isC pc with
        | true =>
          refine iteT ⟨_, rfl, _, hl2, ?_, same_newR (s1.trans s2) hD, ?_⟩
          · rw [nvs_len]
            omega
          · rw [upd_same, hat, if_pos hc]
            unfold nvs
            rw [List.map_append]
            rfl
        | false =>
          refine iteF ?_
          rw [hat, if_neg (by rw [hc]; simp), List.append_nil]
          exact ⟨s1.trans s2, hl2⟩
    · obtain ⟨s1, hl⟩ := hp
      rw [List.length_map, hP.length, List.take_length] at hl
      refine ⟨(by show 0 ≤ sizeLine; decide), fun L hL => ?_⟩
      have sL : Same H' (upd H' L (.lst [])) := same_new hL
      have hLH : Fresh H L := s1.free hL
      have hcl := chars_len r
      have hcuts := cutsOf_at R r
      have hcl2 := cutPl_le R (Fh.charsOf r)
      -- the row, apart from the list that grows
      have hRow1 := (hRow.same s1).off hL
      have old : ∀ {H5 : Hp}, Kp L H' H5 → Same H H5 := fun kp b o e => kp b o (s1 b o e) (ne_of_none (s1 b o e) hL)
      have kpL : Kp L H' (upd H' L (.lst [])) := Kp.self
      refine ⟨_, rfl, y, rfl, ⟨_, SqL.of (sL _ _ (s1 _ _ hy))⟩, ?_⟩
      refine for_list (xs := nvs (cutPl R (Fh.charsOf r))) (fun j σ H5 => ∃ (first : Nat) (o1 o2 : Option V) (ts : List Addr) (qs : List (Nat × Nat)), σ = [some (.ref x), some (.ref y), some (.ref D), some (.ref L), some (.int (first : Nat)), o1, o2, none, none] ∧ Kp L H' H5 ∧ H5 L = some (.lst (ts.map V.ref)) ∧
          Paired (fun (t : Addr) (z : Pc) => PtAt CQ (fun c => (Fresh H c ∨ G c) ∧ c ≠ L) H5 t z.1.1 z.1.2 z.2) ts (qs.map (pcOf r)) ∧ qs.length ≤ j ∧ qs ++ pairsFrom r.length first ((Fh.cutsOf R r).drop j) = pairsFrom r.length 0 (Fh.cutsOf R r) ∧ first ≤ r.length ∧ Ris r.length first ((Fh.cutsOf R r).drop j))
        ⟨0, none, none, [], [], rfl, kpL, upd_same, .nil, Nat.le_refl _, rfl, Nat.zero_le _, cuts_ris R r⟩ (fun j σ H5 _ hq => ?_) (fun j v σ H5 hv hq => ?_) (fun σ H5 hq => ?_)
      · obtain ⟨first, o1, o2, ts, qs, rfl, kp, _⟩ := hq
        exact SqL.of (old kp _ _ hy)
      · obtain ⟨first, o1, o2, ts, qs, rfl, kp, hLs, hts, hqj, heq, hfl, hris⟩ := hq
        have s5 : Same H H5 := old kp
        unfold nvs at hv
        rw [List.getElem?_map] at hv
        cases hc : (cutPl R (Fh.charsOf r))[j]? with
        | none => rw [hc] at hv; cases hv
        | some c =>
          rw [hc] at hv
          obtain rfl : V.int (c : Nat) = v := Option.some.inj hv
          obtain ⟨q, q1, q2, q3, q4, q5⟩ := cut_in (List.mem_of_getElem? hc)
          have hjl : j < (Fh.cutsOf R r).length := by
            rw [hcuts, List.length_map]
            exact (List.getElem?_eq_some_iff.mp hc).1
          have hcj : (Fh.cutsOf R r)[j]? = some (cutB r q) := by
            rw [hcuts, List.getElem?_map, hc]
            show some (cutB r ((atOf r).getD (c - 1) 0)) = _
            rw [q3]
          have hdr : (Fh.cutsOf R r).drop j = cutB r q :: (Fh.cutsOf R r).drop (j + 1) := by
            rw [List.drop_eq_getElem_cons hjl]
            rw [(List.getElem?_eq_some_iff.mp hcj).2]
          rw [hdr] at hris
          obtain ⟨hr1, hr3⟩ := hris
          have hr5 := hr3.le
          have hDL : D ≠ L := fun z => by
            rw [z] at hl
            rw [hl] at hL
            cases hL
          have hat5 : H5 D = some (.lst (nvs (atOf r))) := kp _ _ hl hDL
          refine ⟨_, rfl, x, CW, dxo, _, _, rfl, s5 _ _ hxo, TO.cl, TO.n2, woF_2 _ _ _, _, rfl, _, rfl, _, _, rfl, rfl, D, _, _, V.int (q : Nat), rfl, rfl, SqL.of hat5, ?_, ?_⟩
          · have e : ((c : Nat) : Int) - 1 = ((c - 1 : Nat) : Int) := by omega
            rw [e]
            refine atI_nat ?_
            unfold nvs
            rw [List.getElem?_map, q1]
            rfl
          refine ⟨lo, q, r, G, rfl, hLo.keep fun b o _ e => s5 b o e, q4, q5, fun H6 s6 => ?_⟩
          have hL6 : H6 L = some (.lst (ts.map V.ref)) := s6 _ _ hLs
          have hRow6 : RowO CW K (fun c => G c ∧ c ≠ L) H6 x a0 b0 f0 r := by
            refine (hRow1.keep (fun b o z e => kp b o e z.2) fun z => ?_).same s6
            obtain ⟨_, _, _, _, _, _, _, _, hsa, _⟩ := hRow
            exact s5.seq hsa
          refine ⟨_, rfl, .inl ⟨rfl, _, SqL.of hL6⟩, _, rfl, _, rfl, _, rfl, ?_⟩
          refine fun t dxt nt ndt net => part_made nt ndt net (fun c => (Fresh H c ∨ G c) ∧ c ≠ L) hRow6 (Nat.le_of_lt hr1) hr5 (fun c z => ⟨.inr z.1, z.2⟩) (fun c z => ⟨.inl (s5.free (s6.free z)), fun e => by rw [e, hL6] at z; cases z⟩) fun H7 s7 hT => ?_
          have hL7 := s7 _ _ hL6
          refine ⟨L, _, _, rfl, rfl, hL7, ?_, _, rfl, cutB r q, _, _, ts ++ [t], qs ++ [(first, cutB r q)], rfl, fun b o e n => ?_, ?_, ?_, ?_, ?_, hr5, hr3⟩
          · rw [List.length_map, hts.length, List.length_map]
            rw [hcuts, List.length_map] at hjl
            omega
          · rw [upd_ne n]
            exact s7 _ _ (s6 _ _ (kp b o e n))
          · rw [upd_same, List.map_append]
            rfl
          · rw [List.map_append]
            refine paired_snoc (hts.mono fun u z hz => ((hz.same s6).same s7).keep fun b o zb e => ?_) (hT.keep fun b o zb e => ?_)
            · rw [upd_ne zb.2]
              exact e
            · rw [upd_ne zb.2]
              exact e
          · rw [List.length_append, List.length_cons, List.length_nil]
            omega
          · rw [← heq, hdr, List.append_assoc]
            rfl
      · obtain ⟨first, o1, o2, ts, qs, rfl, kp, hLs, hts, hqj, heq, hfl, hris⟩ := hq
        have s5 : Same H H5 := old kp
        rw [nvs_len, show (cutPl R (Fh.charsOf r)).length = (Fh.cutsOf R r).length by rw [hcuts, List.length_map], List.drop_length] at heq
        rw [nvs_len] at hqj
        have hRow5 : RowO CW K (fun c => G c ∧ c ≠ L) H5 x a0 b0 f0 r := by
          refine hRow1.keep (fun b o z e => kp b o e z.2) fun z => ?_
          obtain ⟨_, _, _, _, _, _, _, _, hsa, _⟩ := hRow
          exact s5.seq hsa
        have hlen : (ys.map V.ref).length = r.length := by rw [List.length_map, hP.length]
        refine ⟨_, rfl, .inl ⟨rfl, _, SqL.of hLs⟩, _, rfl, _, rfl, _, rfl, x, CW, dxo, _, _, rfl, s5 _ _ hxo, TO.cl, TO.n2, woF_2 _ _ _, lo, _, rfl, .inl (SqL.of (s5 _ _ hys)), ?_⟩
        rw [hlen]
        refine fun t dxt nt ndt net => part_made nt ndt net (fun c => (Fresh H c ∨ G c) ∧ c ≠ L) hRow5 hfl (Nat.le_refl _) (fun c z => ⟨.inr z.1, z.2⟩) (fun c z => ⟨.inl (s5.free z), fun e => by rw [e, hLs] at z; cases z⟩) fun H7 s7 hT => ?_
        have hL7 := s7 _ _ hLs
        refine ⟨L, _, _, rfl, rfl, hL7, ?_, _, rfl, ?_⟩
        · rw [List.length_map, hts.length, List.length_map]
          omega
        refine k _ L (fun b o e => ?_) ⟨.inl hLH, ts ++ [t], ?_, ?_⟩
        · rw [upd_ne (ne_of_none e hLH)]
          exact s7 _ _ (s5 _ _ e)
        · rw [upd_same, List.map_append]
          rfl
        · rw [← heq, List.map_append]
          refine paired_snoc (hts.mono fun u z hz => ((hz.same s7).keep fun b o zb e => ?_).imp fun b z => z.1) ((hT.keep fun b o zb e => ?_).imp fun b z => z.1)
          · rw [upd_ne zb.2]
            exact e
          · rw [upd_ne zb.2]
            exact e
end
end Sg

/-! SgSt3 -/
set_option Elab.async false
set_option linter.all false
set_option maxRecDepth 100000
set_option maxHeartbeats 4000000
namespace Sg
open PySem PySem.Spec PyProof.Rows L2
def blk (p : Fh.Piece) : Bool := !decide (tagK p = 0) || decide (tagN p = 32)
theorem bare_all : ∀ x : Fh.Row, Fh.isBare x = x.all blk
  | [] => rfl
  | .char c :: x => by
    have ih := bare_all x
    unfold Fh.isBare at ih ⊢
    show ([c] ++ Fh.charsOf x).all _ = _
    rw [List.all_append, ih, List.all_cons]
    congr 1
    show ((c == 32) && true) = (!decide ((0 : Nat) = 0) || decide (c = 32))
    by_cases q : c = 32
    · rw [q]; rfl
    · rw [decide_eq_false q, beq_eq_false_iff_ne.mpr q]; rfl
  | .open_ c :: x => bare_all x
  | .close c :: x => bare_all x
  | .alone c :: x => bare_all x
theorem eqv_two (a b c d : Int) : PyData.eqv (.tuple [.int a, .int b]) (.tuple [.int c, .int d]) = (a == c && b == d) := by
  simp [PyData.eqv, PyData.eqvAll]
theorem eqv_blank (p : Fh.Piece) : PyData.eqv (.tuple [.int (tagK p : Nat), .int (tagN p : Nat)]) (.tuple [.int 0, .int 32]) = decide (p = .char 32) := by
  rw [eqv_two]
  cases p with
  | char c =>
    show ((0 : Int) == 0 && ((c : Nat) : Int) == 32) = _
    by_cases q : c = 32
    · subst q
      decide
    · rw [decide_eq_false fun z => q (Fh.Piece.char.inj z)]
      have : (((c : Nat) : Int) == 32) = false := beq_eq_false_iff_ne.mpr (by omega)
      rw [this]
      rfl
  | open_ c => rfl
  | close c => rfl
  | alone c => rfl
section
variable {P : Program} {w : World} {K : PySem.W.Frag} {mg : Str → Option Value} {base : Heap} {CA CI CU CS CW CQ : Addr}
/-! ### has_segment -/
def spHasS (CQ : Addr) : Sp := fun vs H Q _ => ∃ (t : Addr) (i j : Nat) (x : Fh.Row) (F : Addr → Prop), vs = [.ref t] ∧ PtAt CQ F H t i j x ∧ x.length ≤ 262144 ∧ ∀ H' : Hp, Same H H' → Q (.bl (!Fh.isBare x)) H'
theorem scHasS : FnScope ["stretch", "kind", "number"] ["stretch"] (defScope sHasS) := ⟨rfl, rfl, rfl, by decide +kernel, rfl, by decide +kernel, by decide +kernel⟩
theorem ok_hasS {f : Addr} {fd : FuncData} (F : Fun K "has_segment" "has_segment" sHasS f fd) (TW : TxW mg) (TN : TxN mg) (TQ : TxPt K CQ) : FnOk P w K mg base CX0 2 f fd ["stretch"] (spHasS CQ) := by
  refine F.ok scHasS (fun vs H Q E h => ?_) (fun cdv A outer s H vs Q E hr h => ?_)
  · obtain ⟨t, i, j, x, G, rfl, _⟩ := h
    rfl
  · obtain ⟨t, i0, j0, x, G, rfl, ⟨_, dxt, l, tx, ht, ⟨_, ys, hy, hP⟩, _⟩, hx, k⟩ := h
    refine ⟨_, pss_one (ps_ret (pe_callB (cr_any rfl) (by rfl) TN.any PyProof.Rows.boot_any (pa_cons (pe_lc (own := [("kind", 1), ("number", 2)]) (g := gTup K 2 (gCons (gName 1) (gCons (gName 2) gNil))) (tt := tYes) (te := tAndV (tOp rEq (tVar 1) (tC (.int 0))) (tOp rNe (tVar 2) (tC (.int 32)))) rfl scHasS.nd (pi_list (pe_fld (pv 0) rfl)) (blkOk_by (N := ["stretch", "kind", "number"]) (sc := defScope sHasS) (by decide +kernel))
          (fun _ _ _ _ _ => pg_tup rfl (pgs_cons (pg_name (i := 1) scHasS.nd rfl (Or.inl rfl)) (pgs_cons (pg_name (i := 2) scHasS.nd rfl (Or.inl rfl)) pgs_nil))) (fun _ _ _ _ _ => pts_nil) (fun _ _ _ _ _ => by exact (pe_and (pe_cmpR op_eq (pv 1) (pe_k TW.char (by rfl)) (nomark _)) (pe_one (pe_cmpR op_ne (pv 2) (pe_k TN.blank (by rfl)) (nomark _)))))) pa_nil))), ?_⟩
    have h9k : (262146 : Nat) < sizeLine := by decide
    refine ⟨_, rfl, t, CQ, dxt, _, _, rfl, ht, TQ.cl, TQ.n3, ptF_3 _ _ _ _, l, rfl, ⟨_, SqL.of hy⟩, fun D hD => ?_⟩
    refine lc_list (K := K) (a := l) (xs := ys.map V.ref) (fun i H' => Same H H' ∧ H' D = some (.lst (((x.take i).map fun p => !blk p).map V.bl)))
      ⟨same_new hD, upd_same⟩ (fun i H' _ hp => SqL.of (hp.1 _ _ hy)) (fun i v H' hv hp => ?_) (fun H' hp => ?_)
    · obtain ⟨s1, hl⟩ := hp
      rw [List.getElem?_map] at hv
      cases hz : ys[i]? with
      | none => rw [hz] at hv; cases hv
      | some z =>
        rw [hz] at hv
        obtain rfl : V.ref z = v := Option.some.inj hv
        obtain ⟨pc, hpc, _, hZ⟩ := paired_get hP hz
        have hi : i < x.length := (List.getElem?_eq_some_iff.mp hpc).1
        have put : (∃ acc, H' D = some (HO.lst acc) ∧ acc.length < sizeLine ∧ (Same H (upd H' D (.lst (acc ++ [V.bl (!blk pc)]))) ∧ upd H' D (.lst (acc ++ [V.bl (!blk pc)])) D = some (.lst (((x.take (i + 1)).map fun p => !blk p).map V.bl)))) := by
          refine ⟨_, hl, ?_, same_newR s1 hD, ?_⟩
          · rw [List.length_map, List.length_map, List.length_take]
            omega
          · rw [upd_same, List.take_add_one, hpc, List.map_append, List.map_append]
            rfl
        refine ⟨z, _, rfl, .inl (.inl (s1 _ _ hZ)), rfl, _, _, rfl, _, _, rfl, rfl, rfl, iteT (B := Same H H' ∧ H' D = some (.lst (((x.take (i + 1)).map fun p => !blk p).map V.bl))) ?_⟩
        refine ⟨_, rfl, rfl, _, rfl, ?_⟩
        have e1 : decide (V.int (tagK pc : Nat) = V.int 0) = decide (tagK pc = 0) := decI (b := 0)
        have e2 : decide (V.int (tagN pc : Nat) = V.int 32) = decide (tagN pc = 32) := decI (b := 32)
        show if decide (V.int (tagK pc : Nat) = V.int 0) = true then _ else _
        rw [e1]
        by_cases q : tagK pc = 0
        · rw [decide_eq_true q]
          have eb : blk pc = decide (tagN pc = 32) := by unfold blk; rw [decide_eq_true q]; rfl
          refine iteT ⟨_, rfl, rfl, ?_⟩
          rw [e2, ← eb]
          exact put
        · rw [decide_eq_false q]
          have eb : blk pc = true := by unfold blk; rw [decide_eq_false q]; rfl
          refine iteF ?_
          rw [eb] at put
          exact put
    · obtain ⟨s1, hl⟩ := hp
      rw [List.length_map, hP.length, List.take_length] at hl
      refine ⟨D, _, rfl, SqL.of hl, ?_⟩
      have e : ((x.map fun p => !blk p).any id) = !Fh.isBare x := by
        rw [bare_all, List.any_map, List.not_all_eq_any_not]
        rfl
      rw [e]
      exact k H' s1
/-! ### without_blanks -/
def spTrim (CQ CW : Addr) (K : PySem.W.Frag) : Sp := fun vs H Q _ => ∃ (x t a0 : Addr) (b0 : Fh.Bytes) (f0 : Nat) (i j : Nat) (r : Fh.Row) (F G : Addr → Prop), vs = [.ref x, .ref t] ∧ RowO CW K G H x a0 b0 f0 r ∧ PtAt CQ F H t i j (cutRow r i j) ∧ i ≤ j ∧ j ≤ r.length ∧ Fh.isBare (cutRow r i j) ≠ true ∧
  ∀ (H' : Hp) (p : Addr), Same H H' → PtAt CQ (fun c => Fresh H c ∨ G c) H' p (trimP r (i, j)).1 (trimP r (i, j)).2 (cutRow r (trimP r (i, j)).1 (trimP r (i, j)).2) → Q (.ref p) H'
theorem scTrim : FnScope ["row", "stretch", "first", "behind"] ["row", "stretch"] (defScope sTrim) := ⟨rfl, rfl, rfl, by decide +kernel, rfl, by decide +kernel, by decide +kernel⟩
theorem ok_trim {f : Addr} {fd : FuncData} (F : Fun K "without_blanks" "without_blanks" sTrim f fd) (TG : TxG K mg) (TO : TxO K CW) (TQ : TxPt K CQ) (GQ : NewOk P w K mg base 2 "Part" CQ ["self", "row", "first", "behind"] (spPartI CQ CW K)) : FnOk P w K mg base CX0 4 f fd ["row", "stretch"] (spTrim CQ CW K) := by
  refine F.ok scTrim (fun vs H Q E h => ?_) (fun cdv A outer s H vs Q E hr h => ?_)
  · obtain ⟨x, t, a0, b0, f0, i, j, r, F, G, rfl, _⟩ := h
    rfl
  · obtain ⟨x, st, a0, b0, f0, i, j, r, F, G, rfl, hRow, ⟨_, dxt, lt, tx, ht, _⟩, hij, hjr, hbare, k⟩ := h
    obtain ⟨_, dxo, l, so, hxo, ⟨_, ys, hy, hP⟩, _⟩ := id hRow
    obtain ⟨bp, hbp, hbs⟩ := TG.bp
    refine ⟨_, pss_cons (ps_set (i := 2) scTrim.nd rfl (Or.inl rfl) (pe_fld (pv 1) rfl))
      (pss_cons (ps_while PassesOwn.never (pt_cmpR (op_eqD hr.units) (pe_ix ix_list (pe_fld (pv 0) rfl) (pv 2) (fun _ _ => rfl)) (pe_glob (v := .ref bp) (by rfl) hbp rfl) (nomark _))
        (pss_one (ps_aug (i := 2) scTrim.nd rfl (Or.inl rfl) pe_int ip_add)))
      (pss_cons (ps_set (i := 3) scTrim.nd rfl (Or.inl rfl) (pe_fld (pv 1) rfl))
      (pss_cons (ps_while PassesOwn.never (pt_cmpR (op_eqD hr.units) (pe_ix ix_list (pe_fld (pv 0) rfl) (pe_op op_sub (pv 3) pe_int) (fun _ _ => rfl)) (pe_glob (v := .ref bp) (by rfl) hbp rfl) (nomark _))
        (pss_one (ps_aug (i := 3) scTrim.nd rfl (Or.inl rfl) pe_int ip_sub)))
      (pss_one (ps_ret (pe_mk GQ hr (by rfl) (by exact (pa_cons (pv 0) (pa_cons (pv 2) (pa_cons (pv 3) pa_nil)))))))))), ?_⟩
    have hxl : (cutRow r i j).length = j - i := cutRow_len hjr
    have hlead := lead_lt hbare
    have htrail := trail_lt hbare
    have hlen : ys.length = r.length := hP.length
    have blank : ∀ (m : Nat), m < r.length → ∃ (z : Addr) (pc : Fh.Piece), (ys.map V.ref)[m]? = some (V.ref z) ∧ r[m]? = some pc ∧ H z = some (pcT pc) := fun m hm => by
      have hz : ys[m]? = some ys[m] := List.getElem?_eq_getElem (by omega)
      obtain ⟨pc, hpc, _, hZ⟩ := paired_get hP hz
      exact ⟨ys[m], pc, by rw [List.getElem?_map, hz]; rfl, hpc, hZ⟩
    refine ⟨_, rfl, st, CQ, dxt, _, _, rfl, ht, TQ.cl, TQ.n1, ptF_1 _ _ _ _, ?_⟩
    refine ⟨fun m σ H' => ∃ n : Nat, σ = [some (.ref x), some (.ref st), some (.int ((i + n : Nat) : Int)), none] ∧ H' = H ∧ n ≤ (Fh.leading (cutRow r i j)).length ∧ m = (Fh.leading (cutRow r i j)).length - n, ⟨_, 0, rfl, rfl, Nat.zero_le _, rfl⟩, ?_⟩
    rintro m σ H1 ⟨n, rfl, hHH, hn, rfl⟩
    obtain rfl : H = H1 := hHH.symm
    obtain ⟨z, pc, hz, hpc, hZ⟩ := blank (i + n) (by omega)
    have hiff := leading_at (cutRow r i j) n pc (by rw [cutRow_at (by omega)]; exact hpc) hn
    refine ⟨_, rfl, x, CW, dxo, _, _, rfl, hxo, TO.cl, TO.n2, woF_2 _ _ _, _, rfl, l, _, _, _, rfl, rfl, SqL.of hy, atI_nat hz, .tuple [.int (tagK pc : Nat), .int (tagN pc : Nat)], .tuple [.int 0, .int 32], .tup (.inl (.inl hZ)) (.cons (.int _) (.cons (.int _) .nil)), .tup (hbs _) (.cons (.int _) (.cons (.int _) .nil)), rfl, rfl, _, rfl, ?_⟩
    show if PyData.eqv (.tuple [.int (tagK pc : Nat), .int (tagN pc : Nat)]) (.tuple [.int 0, .int 32]) = true then _ else _
    rw [eqv_blank]
    by_cases q : pc = .char 32
    · rw [decide_eq_true q]
      have hlt := hiff.mp q
      exact iteT ⟨_, fun σ' H4 z => z, _, rfl, _, _, rfl, rfl, _, by omega, n + 1, rfl, rfl, hlt, rfl⟩
    · rw [decide_eq_false q]
      have en : n = (Fh.leading (cutRow r i j)).length := by
        have : ¬ n < (Fh.leading (cutRow r i j)).length := fun z => q (hiff.mpr z)
        omega
      subst en
      refine iteF ?_
      refine ⟨_, rfl, st, CQ, dxt, _, _, rfl, ht, TQ.cl, TQ.n2, ptF_2 _ _ _ _, ?_⟩
      refine ⟨fun m σ H' => ∃ n : Nat, σ = [some (.ref x), some (.ref st), some (.int ((i + (Fh.leading (cutRow r i j)).length : Nat) : Int)), some (.int ((j - n : Nat) : Int))] ∧ H' = H ∧ n ≤ (Fh.leading ((cutRow r i j).drop (Fh.leading (cutRow r i j)).length).reverse).length ∧ m = (Fh.leading ((cutRow r i j).drop (Fh.leading (cutRow r i j)).length).reverse).length - n, ⟨_, 0, rfl, rfl, Nat.zero_le _, rfl⟩, ?_⟩
      rintro m σ H1 ⟨n, rfl, hHH, hn2, rfl⟩
      obtain rfl : H = H1 := hHH.symm
      have hjn : j - n - 1 < r.length := by omega
      obtain ⟨z, pc, hz, hpc, hZ⟩ := blank (j - n - 1) hjn
      have hiff := trail_at (x := cutRow r i j) (m := n) (p := pc) hn2 (by omega) (by
        rw [cutRow_at (by omega), hxl, show i + (j - i - 1 - n) = j - n - 1 by omega]
        exact hpc)
      have ej : ((j - n : Nat) : Int) - 1 = ((j - n - 1 : Nat) : Int) := by omega
      refine ⟨_, rfl, x, CW, dxo, _, _, rfl, hxo, TO.cl, TO.n2, woF_2 _ _ _, _, rfl, _, _, rfl, rfl, l, _, _, V.ref z, rfl, rfl, SqL.of hy, ?_, ?_⟩
      · rw [ej]
        exact atI_nat hz
      refine ⟨.tuple [.int (tagK pc : Nat), .int (tagN pc : Nat)], .tuple [.int 0, .int 32], .tup (.inl (.inl hZ)) (.cons (.int _) (.cons (.int _) .nil)), .tup (hbs _) (.cons (.int _) (.cons (.int _) .nil)), rfl, rfl, _, rfl, ?_⟩
      show if PyData.eqv (.tuple [.int (tagK pc : Nat), .int (tagN pc : Nat)]) (.tuple [.int 0, .int 32]) = true then _ else _
      rw [eqv_blank]
      by_cases q : pc = .char 32
      · rw [decide_eq_true q]
        have hlt := hiff.mp q
        refine iteT ⟨_, fun σ' H4 z => z, _, rfl, _, _, rfl, rfl, _, ?_, n + 1, ?_, rfl, hlt, rfl⟩
        · omega
        · show [some (V.ref x), some (V.ref st), some (V.int _), some (V.int (((j - n : Nat) : Int) - 1))] = _
          rw [ej, show j - n - 1 = j - (n + 1) by omega]
      · rw [decide_eq_false q]
        have en : n = (Fh.leading ((cutRow r i j).drop (Fh.leading (cutRow r i j)).length).reverse).length := by
          have : ¬ n < (Fh.leading ((cutRow r i j).drop (Fh.leading (cutRow r i j)).length).reverse).length := fun z => q (hiff.mpr z)
          omega
        subst en
        refine iteF ⟨_, rfl, _, rfl, _, rfl, fun p dxp np ndp nep => part_made (i := (trimP r (i, j)).1) (j := (trimP r (i, j)).2) np ndp nep (fun c => Fresh H c ∨ G c) hRow ?_ ?_ (fun c z => .inr z) (fun c z => .inl z) fun H' s1 hT => k H' p s1 hT⟩
        · unfold trimP
          dsimp only
          omega
        · unfold trimP
          dsimp only
          omega
end
end Sg

/-! SgSt4 -/
set_option Elab.async false
set_option linter.all false
set_option maxRecDepth 100000
set_option maxHeartbeats 4000000
namespace Sg
open PySem PySem.Spec PyProof.Rows L2
theorem fresh_ne {H : Hp} {c L : Addr} {o : HO} (z : Fresh H c) (h : H L = some o) : c ≠ L := fun e => by
  have z : H c = none := z
  rw [e, h] at z
  cases z
/-- lists of Parts in a list -/
def SgL (CQ : Addr) (F : Addr → Prop) (H : Hp) (D : Addr) (ls : List (List Pc)) : Prop := F D ∧ ∃ ds : List Addr, H D = some (.lst (ds.map V.ref)) ∧ Paired (fun (d : Addr) (l : List Pc) => PtsAt CQ F H d l) ds ls
theorem SgL.keep {CQ : Addr} {F : Addr → Prop} {H H' : Hp} {D : Addr} {ls : List (List Pc)} (h : SgL CQ F H D ls) (g : ∀ b o, F b → H b = some o → H' b = some o) : SgL CQ F H' D ls := by
  obtain ⟨h1, ts, h2, h3⟩ := h
  exact ⟨h1, ts, g _ _ h1 h2, h3.mono fun _ _ z => z.keep g⟩
theorem SgL.same {CQ : Addr} {F : Addr → Prop} {H H' : Hp} {D : Addr} {ls : List (List Pc)} (h : SgL CQ F H D ls) (g : Same H H') : SgL CQ F H' D ls := h.keep fun b o _ e => g b o e
theorem SgL.imp {CQ : Addr} {F G : Addr → Prop} {H : Hp} {D : Addr} {ls : List (List Pc)} (h : SgL CQ F H D ls) (g : ∀ b, F b → G b) : SgL CQ G H D ls := by
  obtain ⟨h1, ts, h2, h3⟩ := h
  exact ⟨g _ h1, ts, h2, h3.mono fun _ _ z => z.imp g⟩
/-- rows in a list, each short enough -/
def RwL (CW : Addr) (K : PySem.W.Frag) (G : Addr → Prop) (H : Hp) (a : Addr) (rs : List Fh.Row) : Prop := ∃ xs : List Addr, H a = some (.lst (xs.map V.ref)) ∧ Paired (fun (x : Addr) (r : Fh.Row) => (∃ a0 b0 f0, RowO CW K G H x a0 b0 f0 r) ∧ r.length ≤ 4096) xs rs
theorem RwL.same {CW : Addr} {K : PySem.W.Frag} {G : Addr → Prop} {H H' : Hp} {a : Addr} {rs : List Fh.Row} (h : RwL CW K G H a rs) (s : Same H H') : RwL CW K G H' a rs := by
  obtain ⟨xs, h1, h2⟩ := h
  exact ⟨xs, s _ _ h1, h2.mono fun _ _ ⟨⟨a0, b0, f0, z⟩, l⟩ => ⟨⟨a0, b0, f0, z.same s⟩, l⟩⟩
/-- a row's segments -/
def segsPc (R : Fh.Rules) (r : Fh.Row) : List Pc := (segPl R r).map (pcOf r)
section
variable {P : Program} {w : World} {K : PySem.W.Frag} {mg : Str → Option Value} {base : Heap} {CA CI CU CS CW CQ : Addr}
/-! ### segments_of -/
def spSegs (CQ CW CS CU CI : Addr) (K : PySem.W.Frag) : Sp := fun vs H Q _ => ∃ (a y : Addr) (rs : List Fh.Row) (R : Fh.Rules) (F G : Addr → Prop), vs = [.ref a, .ref y] ∧ RwL CW K G H a rs ∧ (jn (rs.map Fh.charsOf)).length ≤ 300000 ∧ RsAt CS CU CI F H y R ∧ RulesOk R ∧
  ∀ (H' : Hp) (D : Addr), Same H H' → SgL CQ (fun c => Fresh H c ∨ G c) H' D (rs.map (segsPc R)) → Q (.ref D) H'
theorem scSegs : FnScope ["rows", "rule_set", "found", "row", "cuts", "stretch"] ["rows", "rule_set"] (defScope sSegs) := ⟨rfl, rfl, rfl, by decide +kernel, rfl, by decide +kernel, by decide +kernel⟩
theorem ok_segs {f : Addr} {fd : FuncData} (F : Fun K "segments_of" "segments_of" sSegs f fd) (zn : mg "zip" = none) (TO : TxO K CW) (GC : CallOk P w K mg base CX0 7 "cut_places" ["paragraphs", "rule_set"] (spCuts CS CU CI)) (GH : CallOk P w K mg base CX0 2 "characters_of" ["row"] (spChars CW K))
    (GS : CallOk P w K mg base CX0 4 "stretches" ["row", "cuts"] (spStr CQ CW K)) (GG : CallOk P w K mg base CX0 2 "has_segment" ["stretch"] (spHasS CQ)) (GT : CallOk P w K mg base CX0 4 "without_blanks" ["row", "stretch"] (spTrim CQ CW K)) :
    FnOk P w K mg base CX0 8 f fd ["rows", "rule_set"] (spSegs CQ CW CS CU CI K) := by
  refine F.ok scSegs (fun vs H Q E h => ?_) (fun cdv A outer s H vs Q E hr h => ?_)
  · obtain ⟨a, y, rs, R, F, G, rfl, _⟩ := h
    rfl
  · obtain ⟨a, y, rs, R, F1, G, rfl, hRw, hjn, hRs, hok, k⟩ := h
    obtain ⟨xs, ha, hP⟩ := id hRw
    have hr2 : Room 2 (A.deeper (envOfC (Str.ofString "segments_of") (defScope sSegs) s.heap.objs.size f cdv)) := hr.mono (by decide)
    have hr4 : Room 4 (A.deeper (envOfC (Str.ofString "segments_of") (defScope sSegs) s.heap.objs.size f cdv)) := hr.mono (by decide)
    refine ⟨_, pss_cons (ps_set (i := 2) scSegs.nd rfl (Or.inl rfl) (pe_lst pa_nil))
      (pss_cons (ps_for PassesOwn.never rfl (pi_zip (by rfl) zn (pa_cons (pv 0) (pa_cons (pe_c GC hr (by rfl) pass0 (by exact (pa_cons
          (pe_lc (own := [("row", 3)]) (g := gName 3) (tt := tYes) (te := tCall (spChars CW K) [] L2.E0 (tCons (tVar 3) tNil)) rfl scSegs.nd (pi_list (pv 0)) (blkOk_by (N := ["rows", "rule_set", "found", "row", "cuts", "stretch"]) (sc := defScope sSegs) (by decide +kernel))
            (fun _ _ _ _ _ => pg_name (i := 3) scSegs.nd rfl (Or.inl rfl)) (fun _ _ _ _ _ => pts_nil) (fun _ _ _ _ _ => by exact (pe_c GH hr2 (by rfl) pass0 (by exact (pa_cons (pv 3) pa_nil))))) (pa_cons (pv 1) pa_nil)))) pa_nil)))
          (pg_tup rfl (pgs_cons (pg_name (i := 3) scSegs.nd rfl (Or.inr rfl)) (pgs_cons (pg_name (i := 4) scSegs.nd rfl (Or.inl rfl)) pgs_nil)))
        (pss_one (ps_expr (pe_bm PySem.F.plainAttrs_list PySem.F.slot_list_append PySem.F.type_list_append mt_append (pv 2) (pa_cons
          (pe_lc (own := [("stretch", 5)]) (g := gName 5) (tt := tTest (tCall (spHasS CQ) [] L2.E0 (tCons (tVar 5) tNil))) (te := tCall (spTrim CQ CW K) [] L2.E0 (tCons (tVar 3) (tCons (tVar 5) tNil))) rfl scSegs.nd (pi_list (pe_c GS hr4 (by rfl) pass0 (by exact (pa_cons (pv 3) (pa_cons (pv 4) pa_nil))))) (blkOk_by (N := ["rows", "rule_set", "found", "row", "cuts", "stretch"]) (sc := defScope sSegs) (by decide +kernel))
            (fun _ _ _ _ _ => pg_name (i := 5) scSegs.nd rfl (Or.inl rfl)) (fun _ _ _ _ _ => pts_one (by exact (pt_val (pe_c GG hr2 (by rfl) pass0 (by exact (pa_cons (pv 5) pa_nil)))))) (fun _ _ _ _ _ => by exact (pe_c GT hr4 (by rfl) pass0 (by exact (pa_cons (pv 3) (pa_cons (pv 5) pa_nil)))))) pa_nil)))))
      (pss_one (ps_ret (pv 2)))), ?_⟩
    have h9k : (300000 : Nat) < sizeLine := by decide
    have hrl : rs.length ≤ 300000 := by
      have : ∀ qs : List (List Nat), qs.length ≤ (jn qs).length := fun qs => by
        induction qs with
        | nil => exact Nat.le_refl _
        | cons c qs ih => rw [jn_len, List.length_cons]; omega
      have := this (rs.map Fh.charsOf)
      rw [List.length_map] at this
      omega
    have hxl := hP.length
    refine ⟨(by show 0 ≤ sizeLine; decide), fun L hL => ?_⟩
    have sL : Same H (upd H L (.lst [])) := same_new hL
    have hRow1 : ∀ (x : Addr) (r : Fh.Row) a0 b0 f0, RowO CW K G H x a0 b0 f0 r → RowO CW K (fun c => G c ∧ c ≠ L) (upd H L (.lst [])) x a0 b0 f0 r := fun x r a0 b0 f0 z => (z.off hL).same sL
    refine ⟨_, rfl, _, rfl, a, rfl, ⟨_, SqL.of (sL _ _ ha)⟩, fun C hC => ?_⟩
    refine lc_list (K := K) (a := a) (xs := xs.map V.ref) (fun i H' => Same (upd H L (.lst [])) H' ∧ ∃ us : List Addr, H' C = some (.lst (us.map V.ref)) ∧ Paired (fun (u : Addr) (c : List Nat) => H' u = some (.lst (nvs c)) ∧ u ≠ C) us ((rs.take i).map Fh.charsOf))
      ⟨same_new hC, [], upd_same, .nil⟩ (fun i H' _ hp => SqL.of (hp.1 _ _ (sL _ _ ha))) (fun i v H' hv hp => ?_) (fun H2 hp => ?_)
    · obtain ⟨s1, us, hl, hus⟩ := hp
      rw [List.getElem?_map] at hv
      cases hx : xs[i]? with
      | none => rw [hx] at hv; cases hv
      | some x =>
        rw [hx] at hv
        obtain rfl : V.ref x = v := Option.some.inj hv
        obtain ⟨r, hr1, ⟨a0, b0, f0, hRow⟩, hr4096⟩ := paired_get hP hx
        have hil : i < rs.length := (List.getElem?_eq_some_iff.mp hr1).1
        refine ⟨rfl, iteT (B := Same (upd H L (.lst [])) H' ∧ ∃ us : List Addr, H' C = some (.lst (us.map V.ref)) ∧ Paired (fun (u : Addr) (c : List Nat) => H' u = some (.lst (nvs c)) ∧ u ≠ C) us ((rs.take (i + 1)).map Fh.charsOf)) ?_⟩
        refine ⟨_, rfl, x, a0, b0, f0, r, G, rfl, hRow.same (sL.trans s1), by omega, fun H2 D s2 hDn hD => ?_⟩
        have hl2 := s2 _ _ hl
        have hDC : D ≠ C := fun z => by
          rw [z, hl] at hDn
          cases hDn
        refine ⟨_, hl2, ?_, same_newR (s1.trans s2) hC, us ++ [D], ?_, ?_⟩
        · rw [List.length_map, hus.length, List.length_map, List.length_take]
          omega
        · rw [upd_same, List.map_append]
          rfl
        · rw [List.take_add_one, hr1, List.map_append]
          refine paired_snoc (hus.mono fun u c z => ⟨by rw [upd_ne z.2]; exact s2 _ _ z.1, z.2⟩) ⟨?_, hDC⟩
          rw [upd_ne hDC]
          exact hD
    · obtain ⟨s1, us, hl, hus⟩ := hp
      rw [List.length_map, hxl, List.take_length] at hus
      have s02 : Same H H2 := sL.trans s1
      refine ⟨_, rfl, C, y, R, rs.map Fh.charsOf, F1, rfl, ⟨us, hl, hus.mono fun _ _ z => z.1⟩, hjn, hRs.keep s02, hok, fun H3 Z s3 hZ => ?_⟩
      obtain ⟨hZf, zs, hZl, hZP⟩ := hZ
      have s03 : Same H H3 := s02.trans s3
      have s13 := s1.trans s3
      have zlen : zs.length = rs.length := by rw [hZP.length, List.length_map, List.length_map]
      have hL3 : H3 L = some (.lst []) := s13 _ _ upd_same
      have hZL : Z ≠ L := fresh_ne hZf (s1 _ _ upd_same)
      refine ⟨a, Z, xs.map V.ref, zs.map V.ref, rfl, SqL.of (s03 _ _ ha), SqL.of hZl, ?_⟩
      have old : ∀ {H5 : Hp}, Kp L H3 H5 → Same H H5 := fun kp b o e => kp b o (s03 b o e) (ne_of_none e hL)
      have haL : a ≠ L := ne_of_none ha hL
      refine for_it (walk_zip (xs := xs.map V.ref) (ys := zs.map V.ref) (n := rs.length) (by rw [List.length_map, List.length_map]; omega)) (fun j σ H5 => ∃ (o1 o2 : Option V) (ds : List Addr), σ = [some (.ref a), some (.ref y), some (.ref L), o1, o2, none] ∧ Kp L H3 H5 ∧ H5 L = some (.lst (ds.map V.ref)) ∧
          Paired (fun (d : Addr) (l : List Pc) => PtsAt CQ (fun c => (Fresh H c ∨ G c) ∧ c ≠ L) H5 d l) ds ((rs.take j).map (segsPc R)))
        ⟨none, none, [], rfl, Kp.refl _ _, hL3, .nil⟩ (fun j σ H5 _ hq => ?_) (fun j v σ H5 H6 hj hq hy => ?_) (fun σ H5 hq => ?_)
      · obtain ⟨o1, o2, ds, rfl, kp, _⟩ := hq
        exact ⟨SqL.of (old kp _ _ ha), SqL.of (kp _ _ hZl hZL)⟩
      · obtain ⟨o1, o2, ds, rfl, kp, hLs, hds⟩ := hq
        obtain ⟨t, x1, y1, rfl, hT, rfl, f1, f2⟩ := hy
        replace f1 : (xs.map V.ref)[j]? = some x1 := f1
        replace f2 : (zs.map V.ref)[j]? = some y1 := f2
        rw [List.getElem?_map] at f1 f2
        cases hx : xs[j]? with
        | none => rw [hx] at f1; cases f1
        | some x =>
        cases hz : zs[j]? with
        | none => rw [hz] at f2; cases f2
        | some z =>
        rw [hx] at f1
        rw [hz] at f2
        obtain rfl : V.ref x = x1 := Option.some.inj f1
        obtain rfl : V.ref z = y1 := Option.some.inj f2
        obtain ⟨r, hr1, ⟨a0, b0, f0, hRow⟩, hr4096⟩ := paired_get hP hx
        obtain ⟨l, hl1, hzf, hzl⟩ := paired_get hZP hz
        have el : l = cutPl R (Fh.charsOf r) := by
          rw [List.getElem?_map, List.getElem?_map, hr1] at hl1
          exact (Option.some.inj hl1).symm
        subst el
        have s6 : Same H5 (upd H5 t (.tup [.ref x, .ref z])) := same_new hT
        have s06 : Same H (upd H5 t (.tup [.ref x, .ref z])) := (old kp).trans s6
        have hL6 := s6 _ _ hLs
        have hzL : z ≠ L := fresh_ne hzf (s1 _ _ upd_same)
        have hRow6 : RowO CW K (fun c => G c ∧ c ≠ L) (upd H5 t (.tup [.ref x, .ref z])) x a0 b0 f0 r := ((hRow1 x r a0 b0 f0 hRow).keep (fun b o zb e => s6 _ _ (kp _ _ (s13 _ _ e) zb.2)) fun _ => by
          obtain ⟨_, _, _, _, _, _, _, _, hsa, _⟩ := hRow
          exact s06.seq hsa)
        refine ⟨t, _, rfl, .inl (.inl upd_same), rfl, _, _, rfl, _, _, rfl, rfl, ?_⟩
        refine ⟨_, rfl, .inl ⟨rfl, _, SqL.of hL6⟩, _, rfl, _, rfl, x, z, a0, b0, f0, r, R, fun c => G c ∧ c ≠ L, rfl, hRow6, hr4096, s6 _ _ (kp _ _ hzl hzL), fun H7 S s7 hS => ?_⟩
        obtain ⟨_, ts, hSl, hSP⟩ := hS
        refine ⟨S, rfl, ⟨_, SqL.of hSl⟩, fun D hD => ?_⟩
        have hRow7 := (hRow6.same s7).off hD
        have s07 := s06.trans s7
        have hL7 := s7 _ _ hL6
        have hcn := cuts_len R r
        have hpn := pairs_len r.length (Fh.cutsOf R r) 0
        have hin := pairs_in (cuts_ris R r)
        refine lc_list (K := K) (a := S) (xs := ts.map V.ref) (fun i H8 => Same H7 H8 ∧ ∃ us : List Addr, H8 D = some (.lst (us.map V.ref)) ∧ us.length ≤ i ∧ Paired (fun (u : Addr) (q : Pc) => PtAt CQ (fun c => ((Fresh H c ∨ G c) ∧ c ≠ L) ∧ c ≠ D) H8 u q.1.1 q.1.2 q.2) us ((((pairsFrom r.length 0 (Fh.cutsOf R r)).take i).filterMap (segP r)).map (pcOf r)))
          ⟨same_new hD, [], upd_same, Nat.zero_le _, .nil⟩ (fun i H8 _ hp => SqL.of (hp.1 _ _ hSl)) (fun i v H8 hv hp => ?_) (fun H8 hp => ?_)
        · obtain ⟨s8, us, hl8, hui, hus8⟩ := hp
          rw [List.getElem?_map] at hv
          cases ht : ts[i]? with
          | none => rw [ht] at hv; cases hv
          | some t2 =>
            rw [ht] at hv
            obtain rfl : V.ref t2 = v := Option.some.inj hv
            obtain ⟨pc, hpc, hPt⟩ := paired_get hSP ht
            rw [List.getElem?_map] at hpc
            cases hij : (pairsFrom r.length 0 (Fh.cutsOf R r))[i]? with
            | none => rw [hij] at hpc; cases hpc
            | some ij =>
              rw [hij] at hpc
              obtain rfl : pcOf r ij = pc := Option.some.inj hpc
              obtain ⟨h1, h2⟩ := hin ij (List.mem_of_getElem? hij)
              have hin2 : i < (pairsFrom r.length 0 (Fh.cutsOf R r)).length := (List.getElem?_eq_some_iff.mp hij).1
              have hfm : ((pairsFrom r.length 0 (Fh.cutsOf R r)).take (i + 1)).filterMap (segP r) = ((pairsFrom r.length 0 (Fh.cutsOf R r)).take i).filterMap (segP r) ++ (segP r ij).toList := by
                rw [List.take_add_one, hij, List.filterMap_append]
                congr 1
                all_goals (show ([ij] : List (Nat × Nat)).filterMap (segP r) = _; cases q : segP r ij <;> simp [q])
              refine ⟨rfl, _, rfl, t2, ij.1, ij.2, cutRow r ij.1 ij.2, _, rfl, PtAt.same hPt s8, ?_, fun H9 s9 => ⟨_, rfl, ?_⟩⟩
              · rw [cutRow_len h2]
                omega
              have s79 := s8.trans s9
              have hl9 := s9 _ _ hl8
              by_cases q : Fh.isBare (cutRow r ij.1 ij.2) = true
              · rw [q]
                refine iteF ⟨s79, us, hl9, by omega, ?_⟩
                rw [hfm, show segP r ij = none by unfold segP; rw [if_pos q]]
                simp only [Option.toList_none, List.append_nil]
                exact hus8.mono fun _ _ z => z.same s9
              · have q' : Fh.isBare (cutRow r ij.1 ij.2) = false := by simpa using q
                rw [q']
                refine iteT ⟨_, rfl, _, rfl, x, t2, a0, b0, f0, ij.1, ij.2, r, _, _, rfl, hRow7.same s79, PtAt.same hPt s79, h1, h2, q, fun H10 p s10 hp => ?_⟩
                have hl10 := s10 _ _ hl9
                refine ⟨_, hl10, ?_, same_newR (s79.trans s10) hD, us ++ [p], ?_, ?_, ?_⟩
                · rw [List.length_map]
                  omega
                · rw [upd_same, List.map_append]
                  rfl
                · rw [List.length_append]
                  simp
                  omega
                · rw [hfm, show segP r ij = some (trimP r ij) by unfold segP; rw [if_neg q], List.map_append]
                  have put : ∀ {u : Addr} {i' j' : Nat} {s' : Fh.Row}, PtAt CQ (fun c => ((Fresh H c ∨ G c) ∧ c ≠ L) ∧ c ≠ D) H10 u i' j' s' → PtAt CQ (fun c => ((Fresh H c ∨ G c) ∧ c ≠ L) ∧ c ≠ D) (upd H10 D (.lst (us.map V.ref ++ [V.ref p]))) u i' j' s' := fun z => z.keep fun b o zb e => by
                    rw [upd_ne zb.2]
                    exact e
                  refine paired_snoc (hus8.mono fun _ _ z => put ((z.same s9).same s10)) (put (hp.imp fun c z => ?_))
                  rcases z with z | z
                  · exact ⟨⟨.inl ((s07.trans s79).free z), fresh_ne z (s79 _ _ hL7)⟩, fresh_ne z hl9⟩
                  · exact ⟨⟨.inr z.1.1, z.1.2⟩, z.2⟩
        · obtain ⟨s8, us, hl8, hui, hus8⟩ := hp
          rw [List.length_map, hSP.length, List.length_map, List.take_length] at hus8
          have hL8 := s8 _ _ hL7
          have hDL : D ≠ L := fun q => by
            rw [q, hL7] at hD
            cases hD
          have dlen : ds.length = j := by
            rw [hds.length, List.length_map, List.length_take]
            omega
          have s58 : Same H5 H8 := (s6.trans s7).trans s8
          refine ⟨L, _, _, rfl, rfl, hL8, ?_, _, _, ds ++ [D], rfl, fun b o e n => ?_, ?_, ?_⟩
          · rw [List.length_map]
            omega
          · rw [upd_ne n]
            exact s58 _ _ (kp b o e n)
          · rw [upd_same, List.map_append]
            rfl
          · rw [show rs.take (j + 1) = rs.take j ++ [r] by rw [List.take_add_one, hr1]; rfl, List.map_append]
            have put : ∀ {u : Addr} {ls : List Pc}, PtsAt CQ (fun c => (Fresh H c ∨ G c) ∧ c ≠ L) H8 u ls → PtsAt CQ (fun c => (Fresh H c ∨ G c) ∧ c ≠ L) (upd H8 L (.lst (ds.map V.ref ++ [V.ref D]))) u ls := fun z => z.keep fun b o zb e => by
              rw [upd_ne zb.2]
              exact e
            exact paired_snoc (hds.mono fun _ _ z => put (z.same s58)) (put ⟨⟨.inl ((s06.trans s7).free hD), hDL⟩, us, hl8, hus8.mono fun _ _ z => z.imp fun c z => z.1⟩)
      · obtain ⟨o1, o2, ds, rfl, kp, hLs, hds⟩ := hq
        rw [List.take_length] at hds
        exact ⟨_, rfl, k H5 L (old kp) ⟨.inl hL, ds, hLs, hds.mono fun _ _ z => z.imp fun c z => z.1⟩⟩
end
end Sg

/-! SgByM -/
set_option Elab.async false
set_option linter.all false
namespace Sg
open Fh
/-! ### a document's paragraphs, and where they stand -/
def rowsOf : Document → List Row
  | [] => []
  | .raw _ :: d => rowsOf d
  | .para r :: d => r :: rowsOf d
def numsFrom : Nat → Document → List Nat
  | _, [] => []
  | n, .raw _ :: d => numsFrom (n + 1) d
  | n, .para _ :: d => n :: numsFrom (n + 1) d
def isPara : Line → Bool
  | .raw _ => false
  | .para _ => true
/-- a line's segments -/
def lnPc (R : Rules) : Line → List Pc
  | .raw _ => []
  | .para r => segsPc R r
theorem rowsOf_app : ∀ (d e : Document), rowsOf (d ++ e) = rowsOf d ++ rowsOf e
  | [], e => rfl
  | .raw _ :: d, e => rowsOf_app d e
  | .para r :: d, e => congrArg _ (rowsOf_app d e)
theorem numsFrom_app : ∀ (d e : Document) (n : Nat), numsFrom n (d ++ e) = numsFrom n d ++ numsFrom (n + d.length) e
  | [], e, n => rfl
  | .raw _ :: d, e, n => by
    show numsFrom (n + 1) (d ++ e) = numsFrom (n + 1) d ++ numsFrom (n + (d.length + 1)) e
    rw [numsFrom_app d e (n + 1), show n + 1 + d.length = n + (d.length + 1) by omega]
  | .para r :: d, e, n => by
    show n :: numsFrom (n + 1) (d ++ e) = n :: (numsFrom (n + 1) d ++ numsFrom (n + (d.length + 1)) e)
    rw [numsFrom_app d e (n + 1), show n + 1 + d.length = n + (d.length + 1) by omega]
theorem nums_len : ∀ (d : Document) (n : Nat), (numsFrom n d).length = (rowsOf d).length
  | [], n => rfl
  | .raw _ :: d, n => nums_len d (n + 1)
  | .para r :: d, n => congrArg (· + 1) (nums_len d (n + 1))
theorem rows_len : ∀ d : Document, (rowsOf d).length ≤ d.length
  | [] => Nat.le_refl _
  | .raw _ :: d => Nat.le_succ_of_le (rows_len d)
  | .para r :: d => Nat.succ_le_succ (rows_len d)
theorem nums_at : ∀ (d : Document) (k j n : Nat), (numsFrom k d)[j]? = some n → ∃ i r, n = k + i ∧ d[i]? = some (.para r) ∧ (rowsOf d)[j]? = some r ∧ (rowsOf (d.take i)).length = j
  | [], k, j, n, h => by simp [numsFrom] at h
  | .raw t :: d, k, j, n, h => by
    obtain ⟨i, r, h1, h2, h3, h4⟩ := nums_at d (k + 1) j n h
    exact ⟨i + 1, r, by omega, h2, h3, h4⟩
  | .para r :: d, k, 0, n, h => by
    have e : k = n := Option.some.inj h
    exact ⟨0, r, by omega, rfl, rfl, rfl⟩
  | .para r :: d, k, j + 1, n, h => by
    obtain ⟨i, r', h1, h2, h3, h4⟩ := nums_at d (k + 1) j n h
    exact ⟨i + 1, r', by omega, h2, h3, congrArg (· + 1) h4⟩
theorem rows_lt {d : Document} {i n : Nat} {r : Row} (h : i < n) (hi : d[i]? = some (.para r)) : (rowsOf (d.take i)).length < (rowsOf (d.take n)).length := by
  have hil : i < d.length := (List.getElem?_eq_some_iff.mp hi).1
  have e : d.take (i + 1) = d.take i ++ [.para r] := by
    rw [List.take_add_one, hi]
    rfl
  have e2 : d.take n = d.take (i + 1) ++ (d.take n).drop (i + 1) := by
    have z : (d.take n).take (i + 1) = d.take (i + 1) := by rw [List.take_take, Nat.min_eq_left (by omega)]
    rw [← z, List.take_append_drop]
  rw [e2, e, rowsOf_app, rowsOf_app, List.length_append, List.length_append]
  show _ < _ + 1 + _
  omega
/-- the lists of segments by line, when those of the first j paragraphs are laid in -/
def laidTo (R : Rules) (d : Document) (j i : Nat) (l : Line) : List Pc := if (rowsOf (d.take i)).length < j then lnPc R l else []
theorem laid_all {R : Rules} {d : Document} {i : Nat} {l : Line} (h : d[i]? = some l) : laidTo R d (rowsOf d).length i l = lnPc R l := by
  unfold laidTo
  cases l with
  | raw t => split <;> rfl
  | para r =>
    have hil := (List.getElem?_eq_some_iff.mp h).1
    have := rows_lt (n := d.length) hil h
    rw [List.take_length] at this
    rw [if_pos this]
theorem laid_step {R : Rules} {d : Document} {i n j : Nat} {l : Line} {r : Row} (hn : d[n]? = some (.para r)) (hj : (rowsOf (d.take n)).length = j) (h : d[i]? = some l) (ne : i ≠ n) : laidTo R d (j + 1) i l = laidTo R d j i l := by
  unfold laidTo
  cases l with
  | raw t => split <;> split <;> rfl
  | para r' =>
    have : (rowsOf (d.take i)).length ≠ j := fun z => by
      rcases Nat.lt_or_gt_of_ne ne with q | q
      · have := rows_lt q h
        omega
      · have := rows_lt q hn
        omega
    by_cases q : (rowsOf (d.take i)).length < j
    · rw [if_pos q, if_pos (by omega)]
    · rw [if_neg q, if_neg (by omega)]
theorem laid_here {R : Rules} {d : Document} {n j : Nat} {r : Row} (hj : (rowsOf (d.take n)).length = j) : laidTo R d (j + 1) n (.para r) = segsPc R r := by
  unfold laidTo
  rw [if_pos (by omega)]
  rfl
theorem utf8_pos (c : Nat) : 1 ≤ (utf8 c).length := by
  unfold utf8
  repeat' split
  all_goals simp
theorem piece_pos (p : Piece) : 1 ≤ p.text.length := by
  cases p with
  | char c =>
    show 1 ≤ (if c = 123 then [123, 123] else utf8 c : Bytes).length
    by_cases q : c = 123
    · rw [if_pos q]
      decide
    · rw [if_neg q]
      exact utf8_pos c
  | open_ n => simp [Piece.text]
  | close n => simp [Piece.text]
  | alone n => simp [Piece.text]
theorem row_le_text : ∀ r : Row, r.length ≤ (rowText r).length
  | [] => Nat.le_refl _
  | p :: r => by
    have h1 := row_le_text r
    have h2 := piece_pos p
    have e : rowText (p :: r) = p.text ++ rowText r := rfl
    rw [e, List.length_append, List.length_cons]
    omega
theorem jn_doc : ∀ d : Document, (jn ((rowsOf d).map charsOf)).length ≤ (docText d).length
  | [] => Nat.le_refl _
  | .raw t :: d => by
    have h := jn_doc d
    have e : docText (.raw t :: d) = Line.text (.raw t) ++ docText d := rfl
    rw [e, List.length_append]
    exact Nat.le_trans h (Nat.le_add_left ..)
  | .para r :: d => by
    have h := jn_doc d
    have e : docText (.para r :: d) = Line.text (.para r) ++ docText d := rfl
    have e2 : rowsOf (.para r :: d) = r :: rowsOf d := rfl
    rw [e, List.length_append, e2, List.map_cons, jn_len, lnTxt_is, List.length_append]
    have h1 := chars_len r
    have h2 := row_le_text r
    have h3 : (lnTxt (.para r)).length = (rowText r).length + 1 := rfl
    have h4 : ([10] : Bytes).length = 1 := rfl
    omega
end Sg

/-! SgByL -/
set_option Elab.async false
set_option linter.all false
set_option maxRecDepth 100000
set_option maxHeartbeats 4000000
namespace Sg
open PySem PySem.Spec PyProof.Rows L2
abbrev rNotNon : R2 := fun x y H Q => y = .non ∧ Q (.bl (!decide (x = .non))) H
theorem nums_snoc (d : Fh.Document) (l : Fh.Line) : numsFrom 0 (d ++ [l]) = numsFrom 0 d ++ if isPara l = true then [d.length] else [] := by
  rw [numsFrom_app]
  cases l with
  | raw t => rfl
  | para r =>
    show _ ++ [0 + d.length] = _
    rw [Nat.zero_add]
    rfl
section
variable {P : Program} {w : World} {K : PySem.W.Frag} {mg : Str → Option Value} {base : Heap} {CI CU CS CL CW CQ : Addr}
theorem LnAt.off {F : Addr → Prop} {H : Hp} {x a L : Addr} {full : Fh.Bytes} {l : Fh.Line} (h : LnAt CL CW K F H x a full l) (n : H L = none) : LnAt CL CW K (fun c => F c ∧ c ≠ L) H x a full l := by
  obtain ⟨h1, dx, tx, v, h2, h3, h4, h5⟩ := h
  refine ⟨⟨h1, ne_of_none h2 n⟩, dx, tx, v, h2, ⟨h3, ne_of_none h4 n⟩, h4, ?_⟩
  cases l with
  | raw t => exact h5
  | para r =>
    obtain ⟨rw, f, e, h6, h7⟩ := h5
    exact ⟨rw, f, e, h6.off n, h7⟩
theorem ix_here {m q : Nat} (lt : q < m) : ixN m ((q : Nat) : Int) = some q := by
  have h1 : (0 : Int) ≤ ((q : Nat) : Int) := by omega
  have h2 : ((q : Nat) : Int) < ((m : Nat) : Int) := by omega
  simp only [ixN, h1, h2, if_true, Int.toNat_natCast]
theorem paired_of {α β : Type} {R : α → β → Prop} : ∀ {l : List α} {m : List β}, l.length = m.length → (∀ (i : Nat) (x : α) (y : β), l[i]? = some x → m[i]? = some y → R x y) → Paired R l m
  | [], [], _, _ => .nil
  | x :: l, y :: m, h, k => .cons (k 0 x y rfl rfl) (paired_of (Nat.succ.inj h) fun i a b h1 h2 => k (i + 1) a b h1 h2)
  | [], _ :: _, h, _ => by simp at h
  | _ :: _, [], h, _ => by simp at h
/-! ### segments_by_line -/
def spByL (CQ CL CW CS CU CI : Addr) (K : PySem.W.Frag) : Sp := fun vs H Q _ => ∃ (L y a : Addr) (full : Fh.Bytes) (d : Fh.Document) (R : Fh.Rules) (F G : Addr → Prop), vs = [.ref L, .ref y] ∧ LnsAt CL CW K G H L a full d ∧ d.length ≤ 16384 ∧ (Fh.docText d).length ≤ 262144 ∧ RsAt CS CU CI F H y R ∧ RulesOk R ∧
  ∀ (H' : Hp) (D : Addr), Same H H' → SgL CQ (fun c => Fresh H c ∨ G c) H' D (d.map (lnPc R)) → Q (.ref D) H'
theorem scByL : FnScope ["lines", "rule_set", "found", "numbers", "rows", "number", "segments", "line"] ["lines", "rule_set"] (defScope sByL) := ⟨rfl, rfl, rfl, by decide +kernel, rfl, by decide +kernel, by decide +kernel⟩
theorem ok_byl {f : Addr} {fd : FuncData} (F : Fun K "segments_by_line" "segments_by_line" sByL f fd) (zn : mg "zip" = none) (TG : TxG K mg) (TL : TxLn K CL) (TO : TxO K CW) (GS : CallOk P w K mg base CX0 8 "segments_of" ["rows", "rule_set"] (spSegs CQ CW CS CU CI K)) :
    FnOk P w K mg base CX0 9 f fd ["lines", "rule_set"] (spByL CQ CL CW CS CU CI K) := by
  refine F.ok scByL (fun vs H Q E h => ?_) (fun cdv A outer s H vs Q E hr h => ?_)
  · obtain ⟨L, y, a, full, d, R, F, G, rfl, _⟩ := h
    rfl
  · obtain ⟨L, y, a, full, d, R, F1, G, rfl, hLs, hdl, hdt, hRs, hok, k⟩ := h
    obtain ⟨hGL, xs, hL, hP⟩ := id hLs
    refine ⟨_, pss_cons (ps_setLc (i := 2) (own := [("line", 7)]) (g := gName 7) (tt := tYes) (te := tLst tNil) (by rfl) scByL.nd rfl rfl (sw_true rfl rfl rfl (by decide +kernel)) (pi_list (pv 0)) (blkOk_by (N := ["lines", "rule_set", "found", "numbers", "rows", "number", "segments", "line"]) (sc := defScope sByL) (by decide +kernel))
          (fun _ _ _ _ _ => pg_name (i := 7) scByL.nd rfl (Or.inl rfl)) (fun _ _ _ _ _ => pts_nil) (fun _ _ _ _ _ => by exact (pe_lst pa_nil)))
      (pss_cons (ps_setLc (i := 3) (own := [("number", 5), ("line", 7)]) (g := gTup K 2 (gCons (gName 5) (gCons (gName 7) gNil))) (tt := tTest (tOp rNotNon (tFld K (tVar 7) "row") (tC .non))) (te := tVar 5) (by rfl) scByL.nd rfl rfl (sw_true rfl rfl rfl (by decide +kernel)) (pi_enum (by rfl) TG.en (pa_cons (pv 0) pa_nil)) (blkOk_by (N := ["lines", "rule_set", "found", "numbers", "rows", "number", "segments", "line"]) (sc := defScope sByL) (by decide +kernel))
          (fun _ _ _ _ _ => pg_tup rfl (pgs_cons (pg_name (i := 5) scByL.nd rfl (Or.inl rfl)) (pgs_cons (pg_name (i := 7) scByL.nd rfl (Or.inl rfl)) pgs_nil))) (fun _ _ _ _ _ => pts_one (by exact (pt_cmpR op_notN (pe_fld (pv 7) rfl) pe_non (nomark _)))) (fun _ _ _ _ _ => by exact (pv 5)))
      (pss_cons (ps_setLc (i := 4) (own := [("number", 5)]) (g := gName 5) (tt := tYes) (te := tFld K (tOp (rIxL K) (tVar 0) (tVar 5)) "row") (by rfl) scByL.nd rfl rfl (sw_true rfl rfl rfl (by decide +kernel)) (pi_list (pv 3)) (blkOk_by (N := ["lines", "rule_set", "found", "numbers", "rows", "number", "segments", "line"]) (sc := defScope sByL) (by decide +kernel))
          (fun _ _ _ _ _ => pg_name (i := 5) scByL.nd rfl (Or.inl rfl)) (fun _ _ _ _ _ => pts_nil) (fun _ _ _ _ _ => by exact (pe_fld (pe_ix ix_list (pv 0) (pv 5) (fun _ _ => rfl)) rfl)))
      (pss_cons (ps_for PassesOwn.never rfl (pi_zip (by rfl) zn (pa_cons (pv 3) (pa_cons (pe_c GS hr (by rfl) pass0 (by exact (pa_cons (pv 4) (pa_cons (pv 1) pa_nil)))) pa_nil)))
          (pg_tup rfl (pgs_cons (pg_name (i := 5) scByL.nd rfl (Or.inl rfl)) (pgs_cons (pg_name (i := 6) scByL.nd rfl (Or.inl rfl)) pgs_nil)))
        (pss_one (ps_asg (pv 6) (pg_sub (pv 2) (pv 5) set_list))))
      (pss_one (ps_ret (pv 2)))))), ?_⟩
    have h9k : (300000 : Nat) < sizeLine := by decide
    have hxl := hP.length
    refine ⟨_, rfl, L, rfl, ⟨_, SqL.of hL⟩, fun D hD => ?_⟩
    refine lc_list (K := K) (a := L) (xs := xs.map V.ref) (fun i H' => Same H H' ∧ ∃ us : List Addr, H' D = some (.lst (us.map V.ref)) ∧ us.length = i ∧ ∀ u ∈ us, Fresh H u ∧ u ≠ D ∧ H' u = some (.lst []))
      ⟨same_new hD, [], upd_same, rfl, fun u hu => absurd hu (by simp)⟩ (fun i H' _ hp => SqL.of (hp.1 _ _ hL)) (fun i v H' hv hp => ?_) (fun H1 hp => ?_)
    · obtain ⟨s1, us, hl, hul, hu⟩ := hp
      have hix : i < xs.length := by
        have := (List.getElem?_eq_some_iff.mp hv).1
        rw [List.length_map] at this
        exact this
      refine ⟨rfl, iteT (B := Same H H' ∧ ∃ us : List Addr, H' D = some (.lst (us.map V.ref)) ∧ us.length = i + 1 ∧ ∀ u ∈ us, Fresh H u ∧ u ≠ D ∧ H' u = some (.lst [])) ?_⟩
      refine ⟨(by show 0 ≤ sizeLine; decide), fun u hu2 => ?_⟩
      have huD : u ≠ D := fresh_ne hu2 hl
      refine ⟨_, same_new hu2 _ _ hl, ?_, same_newR (s1.trans (same_new hu2)) hD, us ++ [u], ?_, ?_, fun c hc => ?_⟩
      · rw [List.length_map]
        omega
      · rw [upd_same, List.map_append]
        rfl
      · rw [List.length_append, hul]
        rfl
      · rcases List.mem_append.mp hc with z | z
        · obtain ⟨z1, z2, z3⟩ := hu c z
          exact ⟨z1, z2, by rw [upd_ne z2]; exact same_new hu2 _ _ z3⟩
        · obtain rfl : c = u := by simpa using z
          exact ⟨s1.free hu2, huD, by rw [upd_ne huD, upd_same]⟩
    obtain ⟨s1, us, hl1, hul, hu1⟩ := hp
    rw [List.length_map, hxl] at hul
    refine ⟨_, rfl, L, xs.map V.ref, rfl, SqL.of (s1 _ _ hL), fun N hN => ?_⟩
    refine lc_it (walk_enum (xs := xs.map V.ref)) (fun i H' => Same H1 H' ∧ H' N = some (.lst (nvs (numsFrom 0 (d.take i)))))
      ⟨same_new hN, upd_same⟩ (fun i H' _ hp => SqL.of (hp.1 _ _ (s1 _ _ hL))) (fun i v H' H2 hi hp hY => ?_) (fun H2 hp => ?_)
    · obtain ⟨s2, hl⟩ := hp
      obtain ⟨t, x1, y1, rfl, hT, rfl, f1, f2⟩ := hY
      obtain rfl : V.int (i : Nat) = x1 := Option.some.inj f1
      replace f2 : (xs.map V.ref)[i]? = some y1 := f2
      rw [List.getElem?_map] at f2
      cases hz : xs[i]? with
      | none => rw [hz] at f2; cases f2
      | some z =>
        rw [hz] at f2
        obtain rfl : V.ref z = y1 := Option.some.inj f2
        obtain ⟨l, hl2, hZ⟩ := paired_get hP hz
        have hid : i < d.length := (List.getElem?_eq_some_iff.mp hl2).1
        have htk : numsFrom 0 (d.take (i + 1)) = numsFrom 0 (d.take i) ++ if isPara l = true then [i] else [] := by
          rw [List.take_add_one, hl2]
          show numsFrom 0 (d.take i ++ [l]) = _
          rw [nums_snoc, List.length_take, Nat.min_eq_left (by omega)]
        have hnl : (numsFrom 0 (d.take i)).length ≤ i := by
          rw [nums_len]
          have := rows_len (d.take i)
          rw [List.length_take] at this
          omega
        have s3 : Same H' (upd H' t (.tup [.int (i : Nat), .ref z])) := same_new hT
        have hl3 := s3 _ _ hl
        have hZ3 := hZ.same ((s1.trans s2).trans s3)
        obtain ⟨_, dx, tx, vr, hz3, _, _, hrow⟩ := hZ3
        refine ⟨t, _, rfl, .inl (.inl upd_same), rfl, _, _, rfl, _, _, rfl, rfl, rfl, ?_⟩
        refine ⟨_, rfl, z, CL, dx, _, _, rfl, hz3, TL.cl, TL.n2, lnF_2 _ _, rfl, _, rfl, ?_⟩
        have hdec : (!decide (vr = V.non)) = isPara l := by
          cases l with
          | raw t =>
            have hrow : vr = .non := hrow
            rw [hrow]
            rfl
          | para r =>
            obtain ⟨rw, f, e, _⟩ := hrow
            rw [e]
            rfl
        rw [hdec]
        cases hc : isPara l with
        | true =>
          refine iteT ⟨_, rfl, _, hl3, ?_, same_newR (s2.trans s3) hN, ?_⟩
          · rw [nvs_len]
            omega
          · rw [upd_same, htk, if_pos hc]
            unfold nvs
            rw [List.map_append]
            rfl
        | false =>
          refine iteF ?_
          rw [htk, if_neg (by rw [hc]; simp), List.append_nil]
          exact ⟨s2.trans s3, hl3⟩
    obtain ⟨s2, hl2⟩ := hp
    rw [List.length_map, hxl, List.take_length] at hl2
    have hnl := nums_len d 0
    have hrd := rows_len d
    refine ⟨_, rfl, N, rfl, ⟨_, SqL.of hl2⟩, fun B hB => ?_⟩
    have s12 := s1.trans s2
    have hP' : Paired (fun (x : Addr) (l : Fh.Line) => LnAt CL CW K (fun c => G c ∧ c ≠ D) H x a full l) xs d := hP.mono fun _ _ z => z.off hD
    refine lc_list (K := K) (a := N) (xs := nvs (numsFrom 0 d)) (fun i H' => Same H2 H' ∧ ∃ ws : List Addr, H' B = some (.lst (ws.map V.ref)) ∧ Paired (fun (x : Addr) (r : Fh.Row) => (∃ f0, RowO CW K (fun c => (G c ∧ c ≠ D) ∧ c ≠ B) H' x a full f0 r) ∧ r.length ≤ 4096) ws ((rowsOf d).take i))
      ⟨same_new hB, [], upd_same, .nil⟩ (fun i H' _ hp => SqL.of (hp.1 _ _ hl2)) (fun i v H' hv hp => ?_) (fun H3 hp => ?_)
    · obtain ⟨s3, ws, hl, hws⟩ := hp
      unfold nvs at hv
      rw [List.getElem?_map] at hv
      cases hn : (numsFrom 0 d)[i]? with
      | none => rw [hn] at hv; cases hv
      | some n =>
        rw [hn] at hv
        obtain rfl : V.int (n : Nat) = v := Option.some.inj hv
        obtain ⟨q, r, e1, e2, e3, e4⟩ := nums_at d 0 i n hn
        rw [Nat.zero_add] at e1
        subst e1
        have hqx : ∃ z, xs[n]? = some z := by
          have := (List.getElem?_eq_some_iff.mp e2).1
          exact ⟨xs[n]'(by omega), List.getElem?_eq_getElem _⟩
        obtain ⟨z, hz⟩ := hqx
        obtain ⟨l, hl4, hZ⟩ := paired_get hP' hz
        rw [e2] at hl4
        obtain rfl := Option.some.inj hl4
        have s13 := s12.trans s3
        obtain ⟨_, dx, tx, vr, hz3, _, _, rw', f0, rfl, hRow, hr4, _⟩ := hZ
        have hil := (List.getElem?_eq_some_iff.mp e3).1
        refine ⟨rfl, iteT (B := Same H2 H' ∧ ∃ ws : List Addr, H' B = some (.lst (ws.map V.ref)) ∧ Paired (fun (x : Addr) (r : Fh.Row) => (∃ f0, RowO CW K (fun c => (G c ∧ c ≠ D) ∧ c ≠ B) H' x a full f0 r) ∧ r.length ≤ 4096) ws ((rowsOf d).take (i + 1))) ?_⟩
        refine ⟨_, rfl, _, rfl, L, _, _, _, rfl, rfl, SqL.of (s13 _ _ hL), atI_nat (show (xs.map V.ref)[n]? = some (V.ref z) by rw [List.getElem?_map, hz]; rfl), z, CL, dx, _, _, rfl, s13 _ _ hz3, TL.cl, TL.n2, lnF_2 _ _, ?_⟩
        refine ⟨_, hl, ?_, same_newR s3 hB, ws ++ [rw'], ?_, ?_⟩
        · rw [List.length_map, hws.length, List.length_take]
          omega
        · rw [upd_same, List.map_append]
          rfl
        · rw [List.take_add_one, e3]
          have hRow2 : RowO CW K (fun c => (G c ∧ c ≠ D) ∧ c ≠ B) H2 rw' a full f0 r := (hRow.same s12).off hB
          have hsa : SqL K H a (bv full) := by
            obtain ⟨_, _, _, _, _, _, _, _, z, _⟩ := hRow
            exact z
          have put : ∀ {x : Addr} {f0 : Nat} {r : Fh.Row}, RowO CW K (fun c => (G c ∧ c ≠ D) ∧ c ≠ B) H' x a full f0 r → RowO CW K (fun c => (G c ∧ c ≠ D) ∧ c ≠ B) (upd H' B (.lst (ws.map V.ref ++ [V.ref rw']))) x a full f0 r := fun z => z.keep (fun b o zb e => by
            rw [upd_ne zb.2]
            exact e) fun _ => (s12.trans (same_newR s3 hB)).seq hsa
          exact paired_snoc (hws.mono fun _ _ ⟨⟨f0, z⟩, l⟩ => ⟨⟨f0, put z⟩, l⟩) ⟨⟨f0, put (hRow2.same s3)⟩, hr4⟩
    obtain ⟨s3, ws, hl3, hws⟩ := hp
    rw [nvs_len, hnl, List.take_length] at hws
    have s13 := s12.trans s3
    have hl23 := s3 _ _ hl2
    have hD3 : H3 D = some (.lst (us.map V.ref)) := s3 _ _ (s2 _ _ hl1)
    have hjn := jn_doc d
    refine ⟨_, rfl, _, rfl, _, rfl, B, y, rowsOf d, R, F1, fun c => (G c ∧ c ≠ D) ∧ c ≠ B, rfl, ⟨ws, hl3, hws.mono fun x r ⟨⟨f0, z⟩, l⟩ => ⟨⟨a, full, f0, z⟩, l⟩⟩, by omega, hRs.keep s13, hok, fun H4 Z s4 hZ => ?_⟩
    obtain ⟨hZf, zs, hZl, hZP⟩ := hZ
    have s04 := s13.trans s4
    have hD4 := s4 _ _ hD3
    have hN4 := s4 _ _ hl23
    have zlen : zs.length = (rowsOf d).length := by rw [hZP.length, List.length_map]
    have hND : N ≠ D := fresh_ne hN hl1
    have toF : ∀ c, (Fresh H3 c ∨ ((G c ∧ c ≠ D) ∧ c ≠ B)) → (Fresh H c ∨ G c) ∧ c ≠ D := fun c z => by
      rcases z with z | z
      · exact ⟨.inl (s13.free z), fresh_ne z hD3⟩
      · exact ⟨.inr z.1.1, z.1.2⟩
    have hZD : Z ≠ D := (toF Z hZf).2
    refine ⟨N, Z, nvs (numsFrom 0 d), zs.map V.ref, rfl, SqL.of hN4, SqL.of hZl, ?_⟩
    have old : ∀ {H5 : Hp}, Kp D H4 H5 → Same H H5 := fun kp b o e => kp b o (s04 b o e) (ne_of_none e hD)
    refine for_it (walk_zip (xs := nvs (numsFrom 0 d)) (ys := zs.map V.ref) (n := (rowsOf d).length) (by rw [nvs_len, hnl, List.length_map]; omega)) (fun j σ H5 => ∃ (o1 o2 : Option V) (fs : List Addr), σ = [some (.ref L), some (.ref y), some (.ref D), some (.ref N), some (.ref B), o1, o2, none] ∧ Kp D H4 H5 ∧ H5 D = some (.lst (fs.map V.ref)) ∧ fs.length = d.length ∧
        ∀ (i : Nat) (l : Fh.Line), d[i]? = some l → ∃ u, fs[i]? = some u ∧ PtsAt CQ (fun c => (Fresh H c ∨ G c) ∧ c ≠ D) H5 u (laidTo R d j i l))
      ⟨none, none, us, rfl, Kp.refl _ _, hD4, hul, fun i l hi => ?_⟩ (fun j σ H5 _ hq => ?_) (fun j v σ H5 H6 hj hq hy => ?_) (fun σ H5 hq => ?_)
    · have hil := (List.getElem?_eq_some_iff.mp hi).1
      have hu2 : us[i]? = some (us[i]'(by omega)) := List.getElem?_eq_getElem _
      obtain ⟨z1, z2, z3⟩ := hu1 _ (List.mem_of_getElem? hu2)
      refine ⟨_, hu2, ⟨.inl z1, z2⟩, [], s4 _ _ (s3 _ _ (s2 _ _ z3)), ?_⟩
      unfold laidTo
      rw [if_neg (Nat.not_lt_zero _)]
      exact .nil
    · obtain ⟨o1, o2, fs, rfl, kp, _⟩ := hq
      exact ⟨SqL.of (kp _ _ hN4 hND), SqL.of (kp _ _ hZl hZD)⟩
    · obtain ⟨o1, o2, fs, rfl, kp, hF, hfl, hin⟩ := hq
      obtain ⟨t, x1, y1, rfl, hT, rfl, f1, f2⟩ := hy
      replace f1 : (nvs (numsFrom 0 d))[j]? = some x1 := f1
      replace f2 : (zs.map V.ref)[j]? = some y1 := f2
      unfold nvs at f1
      rw [List.getElem?_map] at f1 f2
      cases hn : (numsFrom 0 d)[j]? with
      | none => rw [hn] at f1; cases f1
      | some n =>
      cases hz : zs[j]? with
      | none => rw [hz] at f2; cases f2
      | some z =>
      rw [hn] at f1
      rw [hz] at f2
      obtain rfl : V.int (n : Nat) = x1 := Option.some.inj f1
      obtain rfl : V.ref z = y1 := Option.some.inj f2
      obtain ⟨q, r, e1, e2, e3, e4⟩ := nums_at d 0 j n hn
      rw [Nat.zero_add] at e1
      subst e1
      have hnd := (List.getElem?_eq_some_iff.mp e2).1
      obtain ⟨l, hl5, hZ5⟩ := paired_get hZP hz
      have el : l = segsPc R r := by
        rw [List.getElem?_map, e3] at hl5
        exact (Option.some.inj hl5).symm
      subst el
      have s6 : Same H5 (upd H5 t (.tup [.int (n : Nat), .ref z])) := same_new hT
      have hF6 := s6 _ _ hF
      refine ⟨t, _, rfl, .inl (.inl upd_same), rfl, _, _, rfl, _, _, rfl, rfl, ?_⟩
      refine ⟨_, rfl, _, rfl, _, rfl, D, fs.map V.ref, (n : Nat), n, rfl, rfl, hF6, ix_here (by rw [List.length_map]; omega), ?_⟩
      have put : ∀ {u : Addr} {ls : List Pc}, PtsAt CQ (fun c => (Fresh H c ∨ G c) ∧ c ≠ D) (upd H5 t (.tup [.int (n : Nat), .ref z])) u ls → PtsAt CQ (fun c => (Fresh H c ∨ G c) ∧ c ≠ D) (upd (upd H5 t (.tup [.int (n : Nat), .ref z])) D (.lst ((fs.map V.ref).set n (.ref z)))) u ls := fun z => z.keep fun b o zb e => by
        rw [upd_ne zb.2]
        exact e
      refine ⟨_, _, fs.set n z, rfl, fun b o e nb => ?_, ?_, ?_, fun i l hi => ?_⟩
      · rw [upd_ne nb]
        exact s6 _ _ (kp b o e nb)
      · rw [upd_same, List.map_set]
      · rw [List.length_set]
        exact hfl
      · by_cases ei : i = n
        · subst ei
          rw [e2] at hi
          obtain rfl := Option.some.inj hi
          refine ⟨z, by rw [List.getElem?_set_self (by omega)], ?_⟩
          rw [laid_here e4]
          exact put (((hZ5.imp toF).keep fun b o zb e => kp b o e zb.2).same s6)
        · obtain ⟨u, hu1, hu2⟩ := hin i l hi
          refine ⟨u, by rw [List.getElem?_set_ne (Ne.symm ei)]; exact hu1, ?_⟩
          rw [laid_step e2 e4 hi ei]
          exact put (hu2.same s6)
    · obtain ⟨o1, o2, fs, rfl, kp, hF, hfl, hin⟩ := hq
      refine ⟨_, rfl, k H5 D (old kp) ⟨.inl hD, fs, hF, ?_⟩⟩
      refine paired_of (by rw [List.length_map]; exact hfl) fun i u ls hu hls => ?_
      rw [List.getElem?_map] at hls
      cases hd : d[i]? with
      | none => rw [hd] at hls; cases hls
      | some l =>
        rw [hd] at hls
        obtain rfl := Option.some.inj hls
        obtain ⟨u2, h1, h2⟩ := hin i l hd
        rw [hu] at h1
        obtain rfl := Option.some.inj h1
        rw [laid_all hd] at h2
        exact h2.imp fun c z => z.1
end
end Sg

/-! SgNbd -/
set_option Elab.async false
set_option linter.all false
set_option maxRecDepth 100000
set_option maxHeartbeats 4000000
namespace Sg
open PySem PySem.Spec PyProof.Rows L2
theorem paired_app {α β : Type} {R : α → β → Prop} : ∀ {l l' : List α} {m m' : List β}, Paired R l m → Paired R l' m' → Paired R (l ++ l') (m ++ m')
  | _, _, _, _, .nil, h => h
  | _, _, _, _, .cons a b, h => .cons a (paired_app b h)
theorem map_ref_inj : ∀ {l m : List Addr}, l.map V.ref = m.map V.ref → l = m
  | [], [], _ => rfl
  | x :: l, y :: m, h => by
    injection h with h1 h2
    injection h1 with h1
    rw [h1, map_ref_inj h2]
  | [], _ :: _, h => by cases h
  | _ :: _, [], h => by cases h
/-- each segment behind its line's number -/
def numbFrom : Nat → List (List Pc) → List (Nat × Pc)
  | _, [] => []
  | n, l :: r => l.map (fun z => (n, z)) ++ numbFrom (n + 1) r
theorem numb_app : ∀ (l r : List (List Pc)) (n : Nat), numbFrom n (l ++ r) = numbFrom n l ++ numbFrom (n + l.length) r
  | [], r, n => rfl
  | c :: l, r, n => by
    show c.map _ ++ numbFrom (n + 1) (l ++ r) = _ ++ _ ++ numbFrom (n + (l.length + 1)) r
    rw [numb_app l r (n + 1), List.append_assoc, show n + 1 + l.length = n + (l.length + 1) by omega]
theorem numb_snoc (l : List (List Pc)) (c : List Pc) : numbFrom 0 (l ++ [c]) = numbFrom 0 l ++ c.map (fun z => (l.length, z)) := by
  rw [numb_app]
  show _ ++ (c.map _ ++ []) = _
  rw [List.append_nil, Nat.zero_add]
theorem numb_le (ls : List (List Pc)) (i : Nat) : (numbFrom 0 (ls.take i)).length ≤ (numbFrom 0 ls).length := by
  conv => rhs; rw [← List.take_append_drop i ls, numb_app, List.length_append]
  omega
/-- numbered Parts in a list -/
def NbL (CQ : Addr) (F : Addr → Prop) (H : Hp) (D : Addr) (l : List (Nat × Pc)) : Prop := F D ∧ ∃ ts : List Addr, H D = some (.lst (ts.map V.ref)) ∧ Paired (fun (t : Addr) (z : Nat × Pc) => F t ∧ ∃ u, H t = some (.tup [.int (z.1 : Nat), .ref u]) ∧ PtAt CQ F H u z.2.1.1 z.2.1.2 z.2.2) ts l
theorem NbL.keep {CQ : Addr} {F : Addr → Prop} {H H' : Hp} {D : Addr} {l : List (Nat × Pc)} (h : NbL CQ F H D l) (g : ∀ b o, F b → H b = some o → H' b = some o) : NbL CQ F H' D l := by
  obtain ⟨h1, ts, h2, h3⟩ := h
  exact ⟨h1, ts, g _ _ h1 h2, h3.mono fun _ _ ⟨z1, u, z2, z3⟩ => ⟨z1, u, g _ _ z1 z2, z3.keep g⟩⟩
theorem NbL.same {CQ : Addr} {F : Addr → Prop} {H H' : Hp} {D : Addr} {l : List (Nat × Pc)} (h : NbL CQ F H D l) (g : Same H H') : NbL CQ F H' D l := h.keep fun b o _ e => g b o e
theorem NbL.imp {CQ : Addr} {F G : Addr → Prop} {H : Hp} {D : Addr} {l : List (Nat × Pc)} (h : NbL CQ F H D l) (g : ∀ b, F b → G b) : NbL CQ G H D l := by
  obtain ⟨h1, ts, h2, h3⟩ := h
  exact ⟨g _ h1, ts, h2, h3.mono fun _ _ ⟨z1, u, z2, z3⟩ => ⟨g _ z1, u, z2, z3.imp g⟩⟩
section
variable {P : Program} {w : World} {K : PySem.W.Frag} {mg : Str → Option Value} {base : Heap} {CQ : Addr}
theorem SgL.off {F : Addr → Prop} {H : Hp} {D L : Addr} {ls : List (List Pc)} (h : SgL CQ F H D ls) (n : H L = none) : SgL CQ (fun c => F c ∧ c ≠ L) H D ls := by
  obtain ⟨h1, ts, h2, h3⟩ := h
  exact ⟨⟨h1, ne_of_none h2 n⟩, ts, h2, h3.mono fun _ _ z => z.off n⟩
/-! ### numbered -/
def spNbd (CQ : Addr) (K : PySem.W.Frag) : Sp := fun vs H Q _ => ∃ (D : Addr) (ls : List (List Pc)) (G : Addr → Prop), vs = [.ref D] ∧ SgL CQ G H D ls ∧ (numbFrom 0 ls).length ≤ 300000 ∧
  ∀ (H' : Hp) (N : Addr), Same H H' → NbL CQ (fun c => Fresh H c ∨ G c) H' N (numbFrom 0 ls) → Q (.ref N) H'
theorem scNbd : FnScope ["by_line", "found", "number", "segments", "segment"] ["by_line"] (defScope sNbd) := ⟨rfl, rfl, rfl, by decide +kernel, rfl, by decide +kernel, by decide +kernel⟩
theorem ok_nbd {f : Addr} {fd : FuncData} (F : Fun K "numbered" "numbered" sNbd f fd) (en : mg "enumerate" = none) : FnOk P w K mg base CX0 2 f fd ["by_line"] (spNbd CQ K) := by
  refine F.ok scNbd (fun vs H Q E h => ?_) (fun cdv A outer s H vs Q E hr h => ?_)
  · obtain ⟨D, ls, G, rfl, _⟩ := h
    rfl
  · obtain ⟨D, ls, G, rfl, hSg, hlen, k⟩ := h
    refine ⟨_, pss_cons (ps_set (i := 1) scNbd.nd rfl (Or.inl rfl) (pe_lst pa_nil))
      (pss_cons (ps_for PassesOwn.never rfl (pi_enum (by rfl) en (pa_cons (pv 0) pa_nil)) (pg_tup rfl (pgs_cons (pg_name (i := 2) scNbd.nd rfl (Or.inr rfl)) (pgs_cons (pg_name (i := 3) scNbd.nd rfl (Or.inl rfl)) pgs_nil)))
        (pss_one (ps_expr (pe_bm PySem.F.plainAttrs_list PySem.F.slot_list_extend PySem.F.type_list_extend mt_extend (pv 1) (pa_cons
          (pe_lc (own := [("segment", 4)]) (g := gName 4) (tt := tYes) (te := tTup (tCons (tVar 2) (tCons (tVar 4) tNil))) rfl scNbd.nd (pi_list (pv 3)) (blkOk_by (N := ["by_line", "found", "number", "segments", "segment"]) (sc := defScope sNbd) (by decide +kernel))
            (fun _ _ _ _ _ => pg_name (i := 4) scNbd.nd rfl (Or.inl rfl)) (fun _ _ _ _ _ => pts_nil) (fun _ _ _ _ _ => by exact (pe_tup (pa_cons (pv 2) (pa_cons (pv 4) pa_nil))))) pa_nil)))))
      (pss_one (ps_ret (pv 1)))), ?_⟩
    have h9k : (300000 : Nat) < sizeLine := by decide
    obtain ⟨_, ds, hD, hP⟩ := id hSg
    refine ⟨(by show 0 ≤ sizeLine; decide), fun L hL => ?_⟩
    have sL : Same H (upd H L (.lst [])) := same_new hL
    have hSg1 : SgL CQ (fun c => G c ∧ c ≠ L) H D ls := hSg.off hL
    obtain ⟨_, ds1, hD1, hP1⟩ := hSg1
    have eds : ds1 = ds := by
      rw [hD] at hD1
      have := Option.some.inj hD1
      injection this with this
      exact (map_ref_inj this).symm
    subst eds
    have hxl := hP.length
    refine ⟨_, rfl, D, ds1.map V.ref, rfl, SqL.of (sL _ _ hD), ?_⟩
    have old : ∀ {H5 : Hp}, Kp L (upd H L (.lst [])) H5 → Same H H5 := fun kp b o e => kp b o (sL b o e) (ne_of_none e hL)
    refine for_it (walk_enum (xs := ds1.map V.ref)) (fun j σ H5 => ∃ (o1 o2 : Option V) (ts : List Addr), σ = [some (.ref D), some (.ref L), o1, o2, none] ∧ Kp L (upd H L (.lst [])) H5 ∧ H5 L = some (.lst (ts.map V.ref)) ∧
        Paired (fun (t : Addr) (z : Nat × Pc) => ((Fresh H t ∨ G t) ∧ t ≠ L) ∧ ∃ u, H5 t = some (.tup [.int (z.1 : Nat), .ref u]) ∧ PtAt CQ (fun c => (Fresh H c ∨ G c) ∧ c ≠ L) H5 u z.2.1.1 z.2.1.2 z.2.2) ts (numbFrom 0 (ls.take j)))
      ⟨none, none, [], rfl, Kp.refl _ _, upd_same, .nil⟩ (fun j σ H5 _ hq => ?_) (fun j v σ H5 H6 hj hq hy => ?_) (fun σ H5 hq => ?_)
    · obtain ⟨o1, o2, ts, rfl, kp, _⟩ := hq
      exact SqL.of (old kp _ _ hD)
    · obtain ⟨o1, o2, ts, rfl, kp, hl, hts⟩ := hq
      obtain ⟨t, x1, y1, rfl, hT, rfl, f1, f2⟩ := hy
      obtain rfl : V.int (j : Nat) = x1 := Option.some.inj f1
      replace f2 : (ds1.map V.ref)[j]? = some y1 := f2
      rw [List.getElem?_map] at f2
      cases hz : ds1[j]? with
      | none => rw [hz] at f2; cases f2
      | some z =>
        rw [hz] at f2
        obtain rfl : V.ref z = y1 := Option.some.inj f2
        obtain ⟨c, hc, hZ⟩ := paired_get hP1 hz
        have hjl := (List.getElem?_eq_some_iff.mp hc).1
        have s6 : Same H5 (upd H5 t (.tup [.int (j : Nat), .ref z])) := same_new hT
        have s06 : Same H (upd H5 t (.tup [.int (j : Nat), .ref z])) := (old kp).trans s6
        have hl6 := s6 _ _ hl
        have hZ6 := hZ.same s06
        obtain ⟨_, us, hus, hUP⟩ := hZ6
        have htk : numbFrom 0 (ls.take (j + 1)) = numbFrom 0 (ls.take j) ++ c.map (fun z => (j, z)) := by
          rw [List.take_add_one, hc]
          show numbFrom 0 (ls.take j ++ [c]) = _
          rw [numb_snoc, List.length_take, Nat.min_eq_left (by omega)]
        have hcl : (numbFrom 0 (ls.take j)).length + c.length ≤ 300000 := by
          have := numb_le ls (j + 1)
          rw [htk, List.length_append, List.length_map] at this
          omega
        refine ⟨t, _, rfl, .inl (.inl upd_same), rfl, _, _, rfl, _, _, rfl, rfl, ?_⟩
        refine ⟨_, rfl, .inl ⟨rfl, _, SqL.of hl6⟩, _, rfl, z, rfl, ⟨_, SqL.of hus⟩, fun C hC => ?_⟩
        have hCL : C ≠ L := fun q => by
          rw [q, hl6] at hC
          cases hC
        refine lc_list (K := K) (a := z) (xs := us.map V.ref) (fun i H8 => Same (upd H5 t (.tup [.int (j : Nat), .ref z])) H8 ∧ ∃ qs : List Addr, H8 C = some (.lst (qs.map V.ref)) ∧ Paired (fun (q : Addr) (p : Nat × Pc) => (((Fresh H q ∨ G q) ∧ q ≠ L) ∧ q ≠ C) ∧ ∃ u, H8 q = some (.tup [.int (p.1 : Nat), .ref u]) ∧ PtAt CQ (fun c => ((Fresh H c ∨ G c) ∧ c ≠ L) ∧ c ≠ C) H8 u p.2.1.1 p.2.1.2 p.2.2) qs ((c.take i).map fun z => (j, z)))
          ⟨same_new hC, [], upd_same, .nil⟩ (fun i H8 _ hp => SqL.of (hp.1 _ _ hus)) (fun i v H8 hv hp => ?_) (fun H8 hp => ?_)
        · obtain ⟨s8, qs, hl8, hqs⟩ := hp
          rw [List.getElem?_map] at hv
          cases hu : us[i]? with
          | none => rw [hu] at hv; cases hv
          | some u =>
            rw [hu] at hv
            obtain rfl : V.ref u = v := Option.some.inj hv
            obtain ⟨pc, hpc, hPt⟩ := paired_get hUP hu
            have hil := (List.getElem?_eq_some_iff.mp hpc).1
            refine ⟨rfl, iteT (B := Same (upd H5 t (.tup [.int (j : Nat), .ref z])) H8 ∧ ∃ qs : List Addr, H8 C = some (.lst (qs.map V.ref)) ∧ Paired (fun (q : Addr) (p : Nat × Pc) => (((Fresh H q ∨ G q) ∧ q ≠ L) ∧ q ≠ C) ∧ ∃ u, H8 q = some (.tup [.int (p.1 : Nat), .ref u]) ∧ PtAt CQ (fun c => ((Fresh H c ∨ G c) ∧ c ≠ L) ∧ c ≠ C) H8 u p.2.1.1 p.2.1.2 p.2.2) qs ((c.take (i + 1)).map fun z => (j, z))) ?_⟩
            refine ⟨_, rfl, _, rfl, (by show 2 ≤ sizeLine; decide), fun q hq => ?_⟩
            have s9 : Same H8 (upd H8 q (.tup [.int (j : Nat), .ref u])) := same_new hq
            have hqC : q ≠ C := fresh_ne hq hl8
            have hPt' : PtAt CQ (fun c => ((Fresh H c ∨ G c) ∧ c ≠ L) ∧ c ≠ C) (upd H5 t (.tup [.int (j : Nat), .ref z])) u pc.1.1 pc.1.2 pc.2 := (hPt.imp fun c z => (⟨.inr z.1, z.2⟩ : (Fresh H c ∨ G c) ∧ c ≠ L)).off hC
            refine ⟨_, s9 _ _ hl8, ?_, same_newR (s8.trans s9) hC, qs ++ [q], ?_, ?_⟩
            · rw [List.length_map, hqs.length, List.length_map, List.length_take]
              omega
            · rw [upd_same, List.map_append]
              rfl
            · rw [List.take_add_one, hpc, List.map_append]
              have put : ∀ {b : Addr} {o : HO}, (((Fresh H b ∨ G b) ∧ b ≠ L) ∧ b ≠ C) → upd H8 q (.tup [.int (j : Nat), .ref u]) b = some o → upd (upd H8 q (.tup [.int (j : Nat), .ref u])) C (.lst (qs.map V.ref ++ [V.ref q])) b = some o := fun zb e => by
                rw [upd_ne zb.2]
                exact e
              have hqF : ((Fresh H q ∨ G q) ∧ q ≠ L) ∧ q ≠ C := ⟨⟨.inl ((s06.trans s8).free hq), fresh_ne hq (s8 _ _ hl6)⟩, hqC⟩
              refine paired_snoc (hqs.mono fun b p ⟨z1, u', z2, z3⟩ => ⟨z1, u', put z1 (s9 _ _ z2), (z3.same s9).keep fun b o => put⟩) ⟨hqF, u, put hqF upd_same, ((hPt'.same s8).same s9).keep fun b o => put⟩
        · obtain ⟨s8, qs, hl8, hqs⟩ := hp
          rw [List.length_map, hUP.length, List.take_length] at hqs
          have hl9 := s8 _ _ hl6
          have s58 : Same H5 H8 := s6.trans s8
          refine ⟨L, C, _, _, rfl, rfl, hl9, hl8, ?_, _, _, ts ++ qs, rfl, fun b o e n => ?_, ?_, ?_⟩
          · rw [List.length_map, List.length_map, hts.length, hqs.length, List.length_map]
            omega
          · rw [upd_ne n]
            exact s58 _ _ (kp b o e n)
          · rw [upd_same, List.map_append]
          · rw [htk]
            have put : ∀ {b : Addr} {o : HO}, ((Fresh H b ∨ G b) ∧ b ≠ L) → H8 b = some o → upd H8 L (.lst (ts.map V.ref ++ qs.map V.ref)) b = some o := fun zb e => by
              rw [upd_ne zb.2]
              exact e
            refine paired_app (hts.mono fun b p ⟨z1, u', z2, z3⟩ => ⟨z1, u', put z1 (s58 _ _ z2), (z3.same s58).keep fun b o => put⟩) (hqs.mono fun b p ⟨z1, u', z2, z3⟩ => ⟨z1.1, u', put z1.1 z2, (z3.imp fun c z => z.1).keep fun b o => put⟩)
    · obtain ⟨o1, o2, ts, rfl, kp, hl, hts⟩ := hq
      rw [List.length_map, hxl, List.take_length] at hts
      exact ⟨_, rfl, k H5 L (old kp) ⟨.inl hL, ts, hl, hts.mono fun b p ⟨z1, u', z2, z3⟩ => ⟨z1.1, u', z2, z3.imp fun c z => z.1⟩⟩⟩
end
end Sg

/-! SgExt -/
set_option Elab.async false
set_option linter.all false
set_option maxRecDepth 100000
set_option maxHeartbeats 4000000
/-! ### what a new lambda leaves as it is -/
namespace Sg
open PySem PySem.Spec PyProof.Rows L2 LamX
section
variable {H H' : Hp} {F : Addr → Prop} {K : PySem.W.Frag} {CI CU CS CL CW CQ : Addr}
theorem sqL_ext {a : Addr} {xs : List V} (e : ExtN H H') (h : SqL K H a xs) : SqL K H' a xs := by
  rcases h with (h | ⟨o, h⟩) | h
  · exact .inl (.inl (e _ _ h (by intro ps z; cases z)))
  · exact .inl (.inr ⟨o, e _ _ h (by intro ps z; cases z)⟩)
  · exact .inr h
theorem RgL.ext {a : Addr} {rs : List (Nat × Nat)} (h : RgL F H a rs) (e : ExtN H H') : RgL F H' a rs := by
  obtain ⟨h1, ts, h2, h3⟩ := h
  exact ⟨h1, ts, e _ _ h2 (by intro ps z; cases z), h3.mono fun _ _ z => ⟨z.1, e _ _ z.2 (by intro ps z; cases z)⟩⟩
theorem AtomAt.ext {k : Int} {v : V} {a : Fh.Atom} (h : AtomAt F H k v a) (e : ExtN H H') : AtomAt F H' k v a := by
  cases a with
  | any => exact h
  | cls n => exact h
  | lit t =>
    obtain ⟨h1, x, h2, h3, h4⟩ := h
    exact ⟨h1, x, h2, h3, e _ _ h4 (by intro ps z; cases z)⟩
theorem ItAt.ext {a : Addr} {i : Fh.Item} (h : ItAt CI F H a i) (e : ExtN H H') : ItAt CI F H' a i := by
  obtain ⟨h1, dx, k, v, h2, h3⟩ := h
  exact ⟨h1, dx, k, v, e _ _ h2 (by intro ps z; cases z), h3.ext e⟩
theorem ItsAt.ext {a : Addr} {l : List Fh.Item} (h : ItsAt CI F H a l) (e : ExtN H H') : ItsAt CI F H' a l := by
  obtain ⟨h1, xs, h2, h3⟩ := h
  exact ⟨h1, xs, e _ _ h2 (by intro ps z; cases z), h3.mono fun _ _ z => z.ext e⟩
theorem RuAt.ext {a : Addr} {r : Fh.Rule} (h : RuAt CU CI F H a r) (e : ExtN H H') : RuAt CU CI F H' a r := by
  obtain ⟨h1, dx, lb, lh, h2, h3, h4⟩ := h
  exact ⟨h1, dx, lb, lh, e _ _ h2 (by intro ps z; cases z), h3.ext e, h4.ext e⟩
theorem ClAt.ext {d : Addr} {cs : List Cls1} (h : ClAt F H d cs) (e : ExtN H H') : ClAt F H' d cs := by
  obtain ⟨h1, kvs, h2, h3⟩ := h
  exact ⟨h1, kvs, e _ _ h2 (by intro ps z; cases z), h3.mono fun _ _ z => ⟨z.1, let ⟨a, q, r⟩ := z.2; ⟨a, q, r.ext e⟩⟩⟩
theorem RsAt.ext {x : Addr} {R : Fh.Rules} (h : RsAt CS CU CI F H x R) (e : ExtN H H') : RsAt CS CU CI F H' x R := by
  obtain ⟨dx, d, l, h1, h2, h3, xs, h4, h5⟩ := h
  exact ⟨dx, d, l, e _ _ h1 (by intro ps z; cases z), h2.ext e, h3, xs, e _ _ h4 (by intro ps z; cases z), h5.mono fun _ _ z => z.ext e⟩
theorem RowAt.ext {x : Addr} {r : Fh.Row} (h : RowAt F H x r) (e : ExtN H H') : RowAt F H' x r := by
  obtain ⟨h1, xs, h2, h3⟩ := h
  exact ⟨h1, xs, e _ _ h2 (by intro ps z; cases z), h3.mono fun _ _ z => ⟨z.1, e _ _ z.2 (by intro ps z; cases z)⟩⟩
theorem RowO.ext {x a : Addr} {b : Fh.Bytes} {f : Nat} {r : Fh.Row} (h : RowO CW K F H x a b f r) (e : ExtN H H') : RowO CW K F H' x a b f r := by
  obtain ⟨h1, dx, l, s, h2, h3, h4, h5, h6, h7⟩ := h
  exact ⟨h1, dx, l, s, e _ _ h2 (by intro ps z; cases z), h3.ext e, h4, e _ _ h5 (by intro ps z; cases z), sqL_ext e h6, h7⟩
theorem PtAt.ext {x : Addr} {i j : Nat} {s : Fh.Row} (h : PtAt CQ F H x i j s) (e : ExtN H H') : PtAt CQ F H' x i j s := by
  obtain ⟨h1, dx, l, t, h2, h3, h4, h5⟩ := h
  exact ⟨h1, dx, l, t, e _ _ h2 (by intro ps z; cases z), h3.ext e, h4, e _ _ h5 (by intro ps z; cases z)⟩
theorem PtsAt.ext {D : Addr} {l : List Pc} (h : PtsAt CQ F H D l) (e : ExtN H H') : PtsAt CQ F H' D l := by
  obtain ⟨h1, ts, h2, h3⟩ := h
  exact ⟨h1, ts, e _ _ h2 (by intro ps z; cases z), h3.mono fun _ _ z => z.ext e⟩
theorem SgL.ext {D : Addr} {ls : List (List Pc)} (h : SgL CQ F H D ls) (e : ExtN H H') : SgL CQ F H' D ls := by
  obtain ⟨h1, ts, h2, h3⟩ := h
  exact ⟨h1, ts, e _ _ h2 (by intro ps z; cases z), h3.mono fun _ _ z => z.ext e⟩
theorem LnAt.ext {x a : Addr} {full : Fh.Bytes} {l : Fh.Line} (h : LnAt CL CW K F H x a full l) (e : ExtN H H') : LnAt CL CW K F H' x a full l := by
  obtain ⟨h1, dx, tx, v, h2, h3, h4, h5⟩ := h
  refine ⟨h1, dx, tx, v, e _ _ h2 (by intro ps z; cases z), h3, e _ _ h4 (by intro ps z; cases z), ?_⟩
  cases l with
  | raw t => exact h5
  | para r =>
    obtain ⟨rw, f, q, h6, h7⟩ := h5
    exact ⟨rw, f, q, h6.ext e, h7⟩
theorem LnsAt.ext {L a : Addr} {full : Fh.Bytes} {d : Fh.Document} (h : LnsAt CL CW K F H L a full d) (e : ExtN H H') : LnsAt CL CW K F H' L a full d := by
  obtain ⟨h1, xs, h2, h3⟩ := h
  exact ⟨h1, xs, e _ _ h2 (by intro ps z; cases z), h3.mono fun _ _ z => z.ext e⟩
theorem NbL.ext {D : Addr} {l : List (Nat × Pc)} (h : NbL CQ F H D l) (e : ExtN H H') : NbL CQ F H' D l := by
  obtain ⟨h1, ts, h2, h3⟩ := h
  exact ⟨h1, ts, e _ _ h2 (by intro ps z; cases z), h3.mono fun _ _ ⟨z1, u, z2, z3⟩ => ⟨z1, u, e _ _ z2 (by intro ps z; cases z), z3.ext e⟩⟩
theorem ext_same (s : Same H H') : ExtN H H' := ExtN.of s
end
end Sg

/-! SgOk -/
set_option Elab.async false
set_option linter.all false
set_option maxRecDepth 100000
set_option maxHeartbeats 2000000
namespace Sg
open Fh
/-! ### what is read as rules keeps its bounds -/
def ItOk (ks : List Nat) (i : Item) : Prop := i.most ≤ 32 ∧ match i.atom with
  | .any => True
  | .cls n => n ∈ ks
  | .lit l => l ≠ []
theorem lit_ok : ∀ (f n : Nat) (l : List Nat) (b : Bytes) (x : List Nat × Nat), litFrom f n l b = .ok x → x.1 ≠ []
  | 0, n, l, b, x, h => by cases h
  | f + 1, n, l, b, x, h => by
    rw [litFrom_step] at h
    by_cases q : lk b = 34
    · rw [if_pos q] at h
      by_cases q2 : l = []
      · rw [if_pos q2] at h
        cases h
      · rw [if_neg q2] at h
        cases h
        intro e
        exact q2 (List.reverse_eq_nil_iff.mp e)
    · rw [if_neg q] at h
      cases hc : charHere b with
      | error k => rw [hc] at h; cases h
      | ok y =>
        rw [hc] at h
        exact lit_ok f _ _ _ _ h
theorem atom_ok {ks : List Nat} {b : Bytes} {x : Atom × Nat} (h : atomHere ks b = .ok x) : match x.1 with
    | .any => True
    | .cls n => n ∈ ks
    | .lit l => l ≠ [] := by
  match b with
  | [] => cases h
  | c :: r =>
    unfold atomHere at h
    dsimp only at h
    by_cases q1 : c = 46
    · rw [if_pos q1] at h
      cases h
      trivial
    rw [if_neg q1] at h
    by_cases q2 : c = 34
    · rw [if_pos q2] at h
      cases hl : litFrom (r.length + 1) 0 [] r with
      | error k => rw [hl] at h; cases h
      | ok y =>
        rw [hl] at h
        cases h
        exact lit_ok _ _ _ _ _ hl
    rw [if_neg q2] at h
    by_cases q3 : c = 37 ∧ ks ≠ []
    · rw [if_pos q3] at h
      cases hn : numberHere (fun (v : Nat) => ks.any fun (s : Nat) => s == v || (v != 0 && s / 10 == v)) (fun (v : Nat) => ks.contains v) r with
      | error k => rw [hn] at h; cases h
      | ok y =>
        rw [hn] at h
        cases h
        have := (numberHere_ok _ _ _ _ _ hn).1
        simpa using this
    · rw [if_neg q3] at h
      cases h
theorem num_ok {lo hi : Nat} {b : Bytes} {x : Nat × Nat} (h : num lo hi b = .ok x) : lo ≤ x.1 ∧ x.1 ≤ hi := by
  have := (numberHere_ok _ _ _ _ _ h).1
  unfold within at this
  rw [Bool.and_eq_true, decide_eq_true_eq, decide_eq_true_eq] at this
  exact this
theorem times_ok {b : Bytes} {y : Nat × Nat × Nat} (h : timesM b = .ok y) : y.2.1 ≤ 32 := by
  unfold timesM at h
  by_cases q : lk b ≠ 42
  · rw [if_pos q] at h
    cases h
    show 1 ≤ 32
    omega
  · rw [if_neg q] at h
    cases hx : num 0 32 (b.drop 1) with
    | error k => rw [hx] at h; cases h
    | ok x =>
      rw [hx] at h
      dsimp only at h
      by_cases q2 : lk (b.drop (1 + x.2)) ≠ 45
      · rw [if_pos q2] at h
        cases h
      · rw [if_neg q2] at h
        cases hy : num (if x.1 = 1 then 2 else x.1) 32 (b.drop (2 + x.2)) with
        | error k => rw [hy] at h; cases h
        | ok z =>
          rw [hy] at h
          cases h
          exact (num_ok hy).2
theorem item_ok {ks : List Nat} {b : Bytes} {x : Item × Nat} (h : itemM ks b = .ok x) : ItOk ks x.1 := by
  unfold itemM at h
  cases ha : atomHere ks b with
  | error k => rw [ha] at h; cases h
  | ok y =>
    rw [ha] at h
    dsimp only at h
    cases ht : timesM (b.drop y.2) with
    | error k => rw [ht] at h; cases h
    | ok z =>
      rw [ht] at h
      cases h
      exact ⟨times_ok ht, atom_ok ha⟩
def HalfOk (ks : List Nat) (h : Half) : Prop := (∀ i ∈ h.before, ItOk ks i) ∧ ∀ i ∈ h.behind, ItOk ks i
theorem rule_ok {ks : List Nat} {cut : Bool} : ∀ (f n : Nat) (h : Half) (b : Bytes) (x : Rule × Nat), ruleFrom ks cut f n h b = .ok x → HalfOk ks h → (∀ i ∈ x.1.before, ItOk ks i) ∧ ∀ i ∈ x.1.behind, ItOk ks i
  | 0, n, h, b, x, e, _ => by cases e
  | f + 1, n, h, b, x, e, hk => by
    rw [ruleFrom_step] at e
    by_cases c1 : lk b = 10 ∧ h.bar = true
    · rw [if_pos c1] at e
      cases e
      exact ⟨fun i hi => hk.1 i (List.mem_reverse.mp hi), fun i hi => hk.2 i (List.mem_reverse.mp hi)⟩
    rw [if_neg c1] at e
    by_cases c2 : lk b ≠ 32 ∨ h.halt_ = true
    · rw [if_pos c2] at e
      cases e
    rw [if_neg c2] at e
    by_cases c3 : lk (b.drop 1) = 94 ∧ h.start = false ∧ h.before = [] ∧ h.bar = false
    · rw [if_pos c3] at e
      exact rule_ok f _ _ _ _ e hk
    rw [if_neg c3] at e
    by_cases c4 : lk (b.drop 1) = 124 ∧ h.bar = false
    · rw [if_pos c4] at e
      exact rule_ok f _ _ _ _ e hk
    rw [if_neg c4] at e
    by_cases c5 : lk (b.drop 1) = 36 ∧ h.bar = true
    · rw [if_pos c5] at e
      exact rule_ok f _ _ _ _ e hk
    rw [if_neg c5] at e
    unfold ruleItem at e
    cases hi : itemM ks (b.drop 1) with
    | error k => rw [hi] at e; cases e
    | ok y =>
      rw [hi] at e
      refine rule_ok f _ _ _ _ e ?_
      have ok := item_ok hi
      unfold Half.with_
      by_cases c6 : h.bar = true
      · rw [if_pos c6]
        refine ⟨hk.1, fun i hi => ?_⟩
        rcases List.mem_cons.mp hi with rfl | z
        · exact ok
        · exact hk.2 i z
      · rw [if_neg c6]
        refine ⟨fun i hi => ?_, hk.2⟩
        rcases List.mem_cons.mp hi with rfl | z
        · exact ok
        · exact hk.1 i z
theorem rising_snoc : ∀ {l : List (Nat × Nat)} {x : Nat × Nat}, Rising l → (∀ y ∈ l, y.2 < x.1) → x.1 ≤ x.2 → Rising (l ++ [x])
  | [], x, _, _, h => ⟨h, fun y hy => absurd hy (by simp), trivial⟩
  | z :: l, x, ⟨a, b, c⟩, h2, h3 => ⟨a, fun y hy => by
    rcases List.mem_append.mp hy with q | q
    · exact b y q
    · have : y = x := by simpa using q
      rw [this]
      exact h2 z (List.mem_cons_self ..), rising_snoc c (fun y hy => h2 y (List.mem_cons_of_mem _ hy)) h3⟩
theorem ranges_ok : ∀ (f n : Nat) (l : List (Nat × Nat)) (b : Bytes) (x : List (Nat × Nat) × Nat), rangesFrom f n l b = .ok x → Rising l.reverse → (∀ y ∈ l, y.2 < nextLo l) → Rising x.1
  | 0, n, l, b, x, h, _, _ => by cases h
  | f + 1, n, l, b, x, h, hr, hl => by
    rw [rangesFrom_step] at h
    by_cases c1 : lk b = 10 ∧ l ≠ []
    · rw [if_pos c1] at h
      cases h
      exact hr
    rw [if_neg c1] at h
    by_cases c2 : lk b ≠ 32 ∨ LARGEST < nextLo l
    · rw [if_pos c2] at h
      cases h
    rw [if_neg c2] at h
    unfold rangesStep at h
    cases hx : rangeM (nextLo l) b with
    | error k => rw [hx] at h; cases h
    | ok y =>
      rw [hx] at h
      have hb : nextLo l ≤ y.1.1 ∧ y.1.1 ≤ y.1.2 := by
        unfold rangeM at hx
        by_cases q : lk b ≠ 32
        · rw [if_pos q] at hx
          cases hx
        · rw [if_neg q] at hx
          cases h1 : num (nextLo l) LARGEST (b.drop 1) with
          | error k => rw [h1] at hx; cases hx
          | ok z =>
            rw [h1] at hx
            dsimp only at hx
            by_cases q2 : lk (b.drop (1 + z.2)) ≠ 45
            · rw [if_pos q2] at hx
              cases hx
            · rw [if_neg q2] at hx
              cases h2 : num z.1 LARGEST (b.drop (2 + z.2)) with
              | error k => rw [h2] at hx; cases hx
              | ok u =>
                rw [h2] at hx
                cases hx
                exact ⟨(num_ok h1).1, (num_ok h2).1⟩
      refine ranges_ok f _ _ _ _ h ?_ (fun z hz => ?_)
      · rw [List.reverse_cons]
        refine rising_snoc hr (fun z hz => ?_) hb.2
        have := hl z (List.mem_reverse.mp hz)
        omega
      · show z.2 < y.1.2 + 1
        rcases List.mem_cons.mp hz with rfl | q
        · omega
        · have := hl z q
          omega
def ClsInv (cs : List Cls1) : Prop := (cs.map fun c => c.1).Nodup ∧ (∀ c ∈ cs, Rising c.2) ∧ ∀ c ∈ cs, c.1 < nextCls cs
def RulInv (cs : List Cls1) (rs : List Rule) : Prop := ∀ r ∈ rs, (∀ i ∈ r.before, ItOk (cs.map fun c => c.1) i) ∧ ∀ i ∈ r.behind, ItOk (cs.map fun c => c.1) i
theorem rulesF_ok : ∀ (f n : Nat) (cs : List Cls1) (rs : List Rule) (b : Bytes) (R : Rules), rulesFrom f n cs rs b = .ok R → ClsInv cs → RulInv cs rs →
    (R.classes.map fun c => c.1).Nodup ∧ (∀ c ∈ R.classes, Rising c.2) ∧ ∀ r ∈ R.rules, (∀ i ∈ r.before, ItOk (R.classes.map fun c => c.1) i) ∧ ∀ i ∈ r.behind, ItOk (R.classes.map fun c => c.1) i := by
  have fin : ∀ (cs : List Cls1) (rs : List Rule), ClsInv cs → RulInv cs rs → (((⟨cs.reverse, rs.reverse⟩ : Rules).classes.map fun c => c.1).Nodup ∧ (∀ c ∈ (⟨cs.reverse, rs.reverse⟩ : Rules).classes, Rising c.2) ∧
      ∀ r ∈ (⟨cs.reverse, rs.reverse⟩ : Rules).rules, (∀ i ∈ r.before, ItOk ((⟨cs.reverse, rs.reverse⟩ : Rules).classes.map fun c => c.1) i) ∧ ∀ i ∈ r.behind, ItOk ((⟨cs.reverse, rs.reverse⟩ : Rules).classes.map fun c => c.1) i) := fun cs rs hc hr => by
    have mono : ∀ i, ItOk (cs.map fun c => c.1) i → ItOk (cs.reverse.map fun c => c.1) i := fun i ⟨a, b⟩ => by
      refine ⟨a, ?_⟩
      revert b
      cases i.atom with
      | any => exact id
      | cls n =>
        intro b
        show n ∈ cs.reverse.map fun c => c.1
        rw [List.map_reverse]
        exact List.mem_reverse.mpr b
      | lit l => exact id
    refine ⟨?_, fun c h => hc.2.1 c (List.mem_reverse.mp h), fun r h => ?_⟩
    · show (cs.reverse.map fun c => c.1).Nodup
      rw [List.map_reverse]
      exact nodup_count.mpr fun a => by rw [List.count_reverse]; exact nodup_count.mp hc.1 a
    · obtain ⟨a1, a2⟩ := hr r (List.mem_reverse.mp h)
      exact ⟨fun i hi => mono i (a1 i hi), fun i hi => mono i (a2 i hi)⟩
  intro f
  induction f with
  | zero =>
    intro n cs rs b R h hc hr
    match b with
    | [] =>
      cases h
      exact fin cs rs hc hr
    | _ :: _ => cases h
  | succ f ih =>
    intro n cs rs b R h hc hr
    rw [rulesFrom_step] at h
    by_cases c1 : b = []
    · rw [if_pos c1] at h
      cases h
      exact fin cs rs hc hr
    rw [if_neg c1] at h
    by_cases c2 : lk b = 37 ∧ rs.isEmpty = true ∧ nextCls cs < 16
    · rw [if_pos c2] at h
      unfold clsStep at h
      cases hx : num (nextCls cs) 15 (b.drop 1) with
      | error k => rw [hx] at h; cases h
      | ok x =>
        rw [hx] at h
        dsimp only at h
        cases hy : rangesFrom ((b.drop 1).length + 1) (n + 1 + x.2) [] (b.drop (1 + x.2)) with
        | error k => rw [hy] at h; cases h
        | ok y =>
          rw [hy] at h
          have hlo := (num_ok hx).1
          have hne : ∀ c ∈ cs, c.1 < x.1 := fun c hc' => by
            have := hc.2.2 c hc'
            omega
          refine ih _ _ _ _ _ h ⟨?_, fun c h' => ?_, fun c h' => ?_⟩ ?_
          · rw [List.map_cons, List.nodup_cons]
            refine ⟨fun z => ?_, hc.1⟩
            obtain ⟨c, hc', e⟩ := List.mem_map.mp z
            have := hne c hc'
            have e' : c.1 = x.1 := e
            omega
          · rcases List.mem_cons.mp h' with rfl | q
            · exact ranges_ok _ _ _ _ _ hy trivial (fun y hy => absurd hy (by simp))
            · exact hc.2.1 c q
          · show c.1 < x.1 + 1
            rcases List.mem_cons.mp h' with rfl | q
            · show x.1 < x.1 + 1
              omega
            · have := hne c q
              omega
          · have e : rs = [] := List.isEmpty_iff.mp c2.2.1
            rw [e]
            intro r hr'
            exact absurd hr' (by simp)
    rw [if_neg c2] at h
    by_cases c3 : lk b = 43 ∨ lk b = 45
    · rw [if_pos c3] at h
      unfold rulStep at h
      cases hx : ruleFrom (cs.map fun (x : Nat × List (Nat × Nat)) => x.1) (lk b == 43) ((b.drop 1).length + 1) (n + 1) ⟨false, [], false, [], false⟩ (b.drop 1) with
      | error k => rw [hx] at h; cases h
      | ok y =>
        rw [hx] at h
        refine ih _ _ _ _ _ h hc fun r hr' => ?_
        rcases List.mem_cons.mp hr' with rfl | q
        · exact rule_ok _ _ _ _ _ hx ⟨fun i hi => absurd hi (by simp), fun i hi => absurd hi (by simp)⟩
        · exact hr r q
    · rw [if_neg c3] at h
      cases h
theorem rules_ok {b : Bytes} {R : Rules} (h : rulesRead b = .ok R) (hs : R.small = true) : RulesOk R ∧ R.rules.length ≤ 256 := by
  obtain ⟨h1, h2, h3⟩ := rulesF_ok _ _ [] [] _ _ h ⟨List.nodup_nil, fun c hc => absurd hc (by simp), fun c hc => absurd hc (by simp)⟩ (fun r hr => absurd hr (by simp))
  unfold Rules.small at hs
  rw [Bool.and_eq_true, Bool.and_eq_true, decide_eq_true_eq] at hs
  obtain ⟨s1, s2, s3⟩ := hs
  have one : ∀ r ∈ R.rules, ∀ i ∈ r.before ++ r.behind, ItOk (R.classes.map fun c => c.1) i → AtomOk R i.atom ∧ i.most ≤ 32 := fun r hr i hi ok => by
    have hr' := List.all_eq_true.mp s3 r hr
    rw [Bool.and_eq_true, Bool.and_eq_true] at hr'
    have hi' := List.all_eq_true.mp hr'.2.2 i hi
    obtain ⟨a, b⟩ := ok
    refine ⟨?_, a⟩
    revert b hi'
    cases i.atom with
    | any => exact fun _ _ => trivial
    | cls n =>
      intro _ b
      obtain ⟨c, hc, e⟩ := List.mem_map.mp b
      exact ⟨c, hc, e⟩
    | lit l =>
      intro hi' b
      exact ⟨b, of_decide_eq_true hi'⟩
  refine ⟨⟨⟨h1, fun c hc => ⟨h2 c hc, ?_⟩⟩, fun r hr => ⟨fun i hi => one r hr i (List.mem_append_left _ hi) ((h3 r hr).1 i hi), fun i hi => one r hr i (List.mem_append_right _ hi) ((h3 r hr).2 i hi)⟩⟩, s1⟩
  have := of_decide_eq_true (List.all_eq_true.mp s2 c hc)
  have e : RANGES = 256 := rfl
  omega
end Sg

/-! SgSize -/
set_option Elab.async false
set_option linter.all false
set_option maxRecDepth 100000
set_option maxHeartbeats 4000000
namespace Sg
open PySem PySem.Spec PyProof.Rows L2
section
variable {P : Program} {w : World} {K : PySem.W.Frag} {mg : Str → Option Value} {base : Heap} {CT : Addr}
/-! ### check_size -/
abbrev rLenQ (K : PySem.W.Frag) : List V → Hp → VK → Prop := fun xs H Q => ∃ p ys, xs = [V.ref p] ∧ (SqL K H p ys ∨ SqT K H p ys) ∧ Q (.int ys.length) H
def spSize (CT : Addr) (K : PySem.W.Frag) : Sp := fun vs H Q E => ∃ (a : Addr) (xs : List V) (m : Nat), vs = [.ref a, .int (m : Nat)] ∧ SqL K H a xs ∧ (xs.length ≤ m → Q .non H) ∧ (m < xs.length → Gone CT (-6) E)
theorem scSize : FnScope ["text", "most"] ["text", "most"] (defScope sSize) := ⟨rfl, rfl, rfl, by decide +kernel, rfl, by decide +kernel, by decide +kernel⟩
theorem ok_size {f : Addr} {fd : FuncData} (F : Fun K "check_size" "check_size" sSize f fd) (TN : TxN mg) (GG : GoneOk P w K mg base "TooLarge" CT (-6)) : FnOk P w K mg base (L2.CX P w) 4 f fd ["text", "most"] (spSize CT K) := by
  refine F.okX scSize (fun vs H Q E h => ?_) (fun cdv A outer s H vs Q E hr h => ?_)
  · obtain ⟨a, xs, m, rfl, _⟩ := h
    rfl
  · obtain ⟨a, xs, m, rfl, hS, kg, kb⟩ := h
    refine ⟨_, pss_one (ps_if (pt_cmpR op_gt (pe_callB call_len_seq (by rfl) TN.len PySem.boot_len (pa_cons (pv 0) pa_nil)) (pv 1) (nomark _)) (pss_one (ps_raise rfl (takes_of rfl rfl rfl rfl) (pmk_gone GG hr (by rfl)))) pss_nil), ?_⟩
    refine ⟨_, rfl, a, _, rfl, .inl hS, _, rfl, _, _, rfl, rfl, _, rfl, tst (fun q => ?_) (fun q => ?_)⟩
    · exact kb (by omega)
    · exact kg (by omega)
end
end Sg

/-! SgLaS -/
set_option Elab.async false
set_option linter.all false
set_option maxRecDepth 100000
set_option maxHeartbeats 4000000
namespace Sg
open PySem PySem.Spec PyProof.Rows L2 LamX
/-- the name of what lines_and_segments hands to read_as -/
abbrev qLaS : Str := Str.ofString "lines_and_segments" ++ ".<locals>." ++ "<lambda>"
/-- a def whose code object stands at c -/
structure FunC (K : PySem.W.Frag) (x qual : Str) (st : Stmt) (f : Addr) (fd : FuncData) (c : Addr) : Prop where
  ex : ∃ (oc : Value) (od : Option Addr) (kV doc pm : Value) (an : Option Addr) (ct : Value) (osl : Array (Option Value)),
    fd = PySem.W.fnOf x qual (defArgs st) (defBody st) (defScope st) .none kV doc pm an (.ref c) ct ∧ K.lookup f = some ⟨oc, od, .func fd, osl⟩ ∧ PySem.W.codeIn K (.ref c) qual = true
section
variable {P : Program} {w : World} {K : PySem.W.Frag} {mg : Str → Option Value} {base : Heap}
theorem okC {x qual : Str} {st : Stmt} {f c : Addr} {fd : FuncData} {N ps : List Str} {k : Nat} {sp : Sp} (F : FunC K x qual st f fd c) (S : FnScope N ps (defScope st)) (len : ∀ vs H Q E, sp vs H Q E → vs.length = ps.length)
    (reading : ∀ (A : Around) (outer : List Env) (s : Shared) (H : Hp) (vs : List V) (Q : VK) (E : XK), Room k (A.deeper (envOfC qual (defScope st) s.heap.objs.size f (.ref c))) → sp vs H Q E →
      ∃ t, PSs (cxOf (L2.CX P w) P w K mg base N qual (defScope st) f (.ref c) A outer s H E) (defBody st) t ∧ t { nx := fun _ H' => Q .non H', rt := Q } (start N vs) H) : FnOk P w K mg base (L2.CX P w) (k + 1) f fd ps sp := by
  obtain ⟨oc, od, kV, doc, pm, an, ct, osl, rfl, lk, hcd⟩ := F.ex
  refine fn_of lk hcd S len ?_
  intro A outer s H vs Q E hr hsp
  exact reading A outer s H vs Q E hr hsp
/-- E holds of each error of these two -/
structure Says2 (K : PySem.W.Frag) (CF C : Addr) (yes : Bool) : Prop where
  m : PySem.W.exmOne K (.ref C) (.ref CF) = some yes
structure TxKd (mg : Str → Option Value) : Prop where
  rules : ∃ t, mg "NO_RULES" = some (.int 6 t)
  doc : ∃ t, mg "NO_DOCUMENT" = some (.int 7 t)
  mostR : ∃ t, mg "MOST_RULES_BYTES" = some (.int 65536 t)
  mostD : ∃ t, mg "MOST_DOCUMENT_BYTES" = some (.int 262144 t)
/-- what a call with a document and rules answers ahead of its own -/
inductive DocRes where
  | big
  | kind (k n : Nat)
  | small
  | good (R : Fh.Rules) (d : Fh.Document)
def docRes (t d : Fh.Bytes) : DocRes := if 65536 < t.length ∨ 262144 < d.length then .big else match Fh.rulesRead t with
  | .error m => .kind 6 m
  | .ok R => if R.small = true then (match Fh.docRead d with
    | .error e => .kind 7 e.2
    | .ok x => .good R x) else .small
variable {CF CG CT CB CL CW CQ CI CU CS : Addr} {T : List (Addr × Str)}
theorem bad_as {E : XK} {k m : Nat} (TF : TxF K mg CF) (y : Says2 K CF CF true) (h : BadK CG E k m) : Bad CF (eFault K CF CG E k) m := fun d H' hd => ⟨true, y.m, fun _ => ⟨CF, d, ftF m, m, rfl, TF.xf, TF.np, rfl, hd, ft_place m, h⟩, fun z => by cases z⟩
theorem gone_as {E : XK} {k : Nat} {n : Int} (y : Says2 K CF CB false) (h : Gone CB n E) : Gone CB n (eFault K CF CG E k) := fun d H' hd => ⟨false, y.m, fun z => (by cases z), fun _ => h d H' hd⟩
/-! ### lines_and_segments -/
def DocAt (CL CW CQ : Addr) (K : PySem.W.Frag) (H : Hp) (L D b : Addr) (full : Fh.Bytes) (R : Fh.Rules) (d : Fh.Document) : Prop :=
  LnsAt CL CW K (fun _ => True) H L b full d ∧ SgL CQ (fun _ => True) H D (d.map (lnPc R)) ∧ d.length ≤ 16384 ∧ Fh.docText d = full ∧ full.length ≤ 262144
def spLaS (T : List (Addr × Str)) (CG CT CB CL CW CQ : Addr) (K : PySem.W.Frag) : Sp := fun vs H Q E => ∃ (a b : Addr) (t d : Fh.Bytes), vs = [.ref a, .ref b] ∧ SqL K H a (bv t) ∧ SqL K H b (bv d) ∧ Tabs T H ∧ match docRes t d with
  | .big => Gone CT (-6) E
  | .kind k n => BadK CG E k n
  | .small => Gone CB (-6) E
  | .good R x => ∀ (H' : Hp) (p L D : Addr), ExtN H H' → Tabs T H' → H' p = some (.tup [.ref L, .ref D]) → DocAt CL CW CQ K H' L D b d R x → Q (.ref p) H'
theorem scLaS : FnScope ["t", "d", "rule_set", "lines"] ["t", "d"] (defScope sLaS) := ⟨rfl, rfl, rfl, by decide +kernel, rfl, by decide +kernel, by decide +kernel⟩
theorem ok_las {f c tP : Addr} {fd : FuncData} (F : FunC K "lines_and_segments" "lines_and_segments" sLaS f fd c) (TKd : TxKd mg) (TF : TxF K mg CF) (TFk : TxFk K mg CG) (FK : FokH P w K mg base CG) (RA : ReadAs K mg) (eF : Says2 K CF CF true) (eB : Says2 K CF CB false) (TB : TabB base mg c tP) (mem : (tP, qLaS) ∈ T)
    (one : ∀ p ∈ T, p.1 = tP → p.2 = qLaS) (GG : CallOk P w K mg base (L2.CX P w) 4 "check_size" ["text", "most"] (spSize CT K)) (GC : CallOk P w K mg base (L2N.CX P w) 11 "checked_rules" ["text"] (spChecked CF CI CU CS CB K)) (GD : CallOk P w K mg base (L2N.CX P w) 9 "read_document" ["text"] (spRDoc CF CL CW K))
    (GS : CallOk P w K mg base CX0 9 "segments_by_line" ["lines", "rule_set"] (spByL CQ CL CW CS CU CI K)) :
    FnOk P w K mg base (L2.CX P w) 14 f fd ["t", "d"] (spLaS T CG CT CB CL CW CQ K) := by
  refine okC F scLaS (fun vs H Q E h => ?_) (fun A outer s H vs Q E hr h => ?_)
  · obtain ⟨a, b, t, d, rfl, _⟩ := h
    rfl
  · obtain ⟨a, b, t, d, rfl, hS, hT, tabs, out⟩ := h
    have hr4 : Room 4 (A.deeper (envOfC (Str.ofString "lines_and_segments") (defScope sLaS) s.heap.objs.size f (.ref c))) := hr.mono (by decide)
    have hr9 : Room 9 (A.deeper (envOfC (Str.ofString "lines_and_segments") (defScope sLaS) s.heap.objs.size f (.ref c))) := hr.mono (by decide)
    refine ⟨_, pss_cons (ps_expr (pe_c GG hr4 (by rfl) (passOf rfl rfl rfl rfl) (by exact (pa_cons (pv 0) (pa_cons (pe_k TKd.mostR (by rfl)) pa_nil)))))
      (pss_cons (ps_expr (pe_c GG hr4 (by rfl) (passOf rfl rfl rfl rfl) (by exact (pa_cons (pv 1) (pa_cons (pe_k TKd.mostD (by rfl)) pa_nil)))))
      (pss_cons (ps_set (i := 2) scLaS.nd rfl (Or.inl rfl) (pe_readas (lev := 9) (k := 6) (T := T) (t := fun E' => tCall (spChecked CF CI CU CS CB K) [] E' (tCons (tVar 0) tNil)) RA TF TFk FK (by rfl) (pe_k TKd.rules (by rfl)) TB rfl mem one hr (lamS_by (show lamSB (defScope sLaS) _ = true from by decide +kernel)) rfl (fun _ _ _ _ _ => rfl) (passOf rfl rfl rfl rfl)
          (fun A outer s H E' fa ca r => by exact (pe_c GC r (by rfl) (passN rfl rfl rfl rfl) (by exact (pa_cons (pv 0) pa_nil))))))
      (pss_cons (ps_set (i := 3) scLaS.nd rfl (Or.inl rfl) (pe_readas (lev := 9) (k := 7) (T := T) (t := fun E' => tCall (spRDoc CF CL CW K) [] E' (tCons (tVar 1) tNil)) RA TF TFk FK (by rfl) (pe_k TKd.doc (by rfl)) TB rfl mem one hr (lamS_by (show lamSB (defScope sLaS) _ = true from by decide +kernel)) rfl (fun _ _ _ _ _ => rfl) (passOf rfl rfl rfl rfl)
          (fun A outer s H E' fa ca r => by exact (pe_c GD (r.mono (by decide)) (by rfl) (passN rfl rfl rfl rfl) (by exact (pa_cons (pv 1) pa_nil))))))
      (pss_one (ps_ret (pe_tup (pa_cons (pv 3) (pa_cons (pe_c GS hr9 (by rfl) pass0 (by exact (pa_cons (pv 3) (pa_cons (pv 2) pa_nil)))) pa_nil)))))))), ?_⟩
    unfold docRes at out
    refine ⟨_, rfl, a, bv t, 65536, rfl, hS, fun q => ?_, fun q => ?_⟩
    · rw [bv_len] at q
      refine ⟨_, rfl, b, bv d, 262144, rfl, hT, fun q2 => ?_, fun q2 => ?_⟩
      · rw [bv_len] at q2
        rw [if_neg (by omega)] at out
        refine ⟨tabs, fun H1 e1 T1 => ⟨_, rfl, a, t, rfl, sqL_ext e1 hS, by omega, fun m hm => ?_, fun R hR => ⟨fun hs H2 y s2 hy => ?_, fun hs => ?_⟩⟩⟩
        · rw [hm] at out
          exact bad_as TF eF out
        · rw [hR] at out
          dsimp only at out
          rw [if_pos hs] at out
          obtain ⟨ok, h256⟩ := rules_ok hR hs
          have e2 : ExtN H H2 := e1.trans (ext_same s2)
          refine ⟨T1.ext s2, fun H3 e3 T3 => ⟨_, rfl, b, d, rfl, sqL_ext (e2.trans e3) hT, by omega, ?_⟩⟩
          cases hd : Fh.docRead d with
          | error e =>
            rw [hd] at out
            exact bad_as TF eF out
          | ok x =>
            rw [hd] at out
            intro hxl H4 L s4 hL
            have htx := docRead_text hd
            refine ⟨_, rfl, _, rfl, _, rfl, L, y, b, d, x, R, _, _, rfl, hL, hxl, by rw [htx]; omega, (hy.ext e3).keep s4, ok, fun H5 D s5 hD => ⟨(by show 2 ≤ sizeLine; decide), fun p hp => ?_⟩⟩
            have s6 : Same H5 (upd H5 p (.tup [.ref L, .ref D])) := same_new hp
            have s46 := (s4.trans s5).trans s6
            exact out _ p L D ((e2.trans e3).trans (ext_same s46)) (T3.ext s46) upd_same ⟨((hL.same s5).same s6).imp fun _ _ => trivial, (hD.same s6).imp fun _ _ => trivial, hxl, htx, by omega⟩
        · rw [hR] at out
          dsimp only at out
          rw [if_neg (by rw [hs]; simp)] at out
          exact gone_as eB out
      · rw [bv_len] at q2
        rw [if_pos (.inr q2)] at out
        exact out
    · rw [bv_len] at q
      rw [if_pos (.inl q)] at out
      exact out
end
end Sg

/-! SgDoM -/
set_option Elab.async false
set_option linter.all false
namespace Sg
open Fh
/-! ### a document's segments, numbered -/
theorem numb_len (R : Rules) : ∀ (d : Document) (n : Nat), (numbFrom n (d.map (lnPc R))).length = (segsFrom R n d).length
  | [], n => rfl
  | .raw t :: d, n => by
    show ([].map _ ++ numbFrom (n + 1) (d.map (lnPc R))).length = (segsFrom R (n + 1) d).length
    exact numb_len R d (n + 1)
  | .para r :: d, n => by
    show ((segsPc R r).map _ ++ numbFrom (n + 1) (d.map (lnPc R))).length = ((segsOf R r).zipIdx.map _ ++ segsFrom R (n + 1) d).length
    rw [List.length_append, List.length_append, numb_len R d (n + 1), List.length_map, List.length_map, List.length_zipIdx]
    unfold segsPc
    rw [List.length_map, segPl_len]
theorem numb_at (R : Rules) : ∀ (d : Document) (n k : Nat) (z : Nat × Nat × Row), (segsFrom R n d)[k]? = some z → ∃ (i : Nat) (r : Row) (u : Nat × Nat), z.1 = n + i ∧ d[i]? = some (.para r) ∧ (numbFrom n (d.map (lnPc R)))[k]? = some (z.1, pcOf r u) ∧ z.2.2 = cutRow r u.1 u.2 ∧ Fh.endsOf (parted R r) z.2.1 = u
  | [], n, k, z, h => by simp [segsFrom] at h
  | .raw t :: d, n, k, z, h => by
    obtain ⟨i, r, u, h1, h2, h3, h4⟩ := numb_at R d (n + 1) k z h
    exact ⟨i + 1, r, u, by omega, h2, h3, h4⟩
  | .para r :: d, n, k, z, h => by
    have h : ((segsOf R r).zipIdx.map (fun x => (n, x.2, x.1)) ++ segsFrom R (n + 1) d)[k]? = some z := h
    have goal : numbFrom n ((Line.para r :: d).map (lnPc R)) = (segsPc R r).map (fun z => (n, z)) ++ numbFrom (n + 1) (d.map (lnPc R)) := rfl
    have hl : ((segsPc R r).map fun z => (n, z)).length = (segsOf R r).length := by
      unfold segsPc
      rw [List.length_map, List.length_map, segPl_len]
    have hl2 : ((segsOf R r).zipIdx.map fun x => ((n, x.2, x.1) : Nat × Nat × Row)).length = (segsOf R r).length := by rw [List.length_map, List.length_zipIdx]
    rw [goal]
    by_cases q : k < (segsOf R r).length
    · rw [List.getElem?_append_left (by omega), List.getElem?_map, List.getElem?_zipIdx] at h
      cases hk : (segsOf R r)[k]? with
      | none => rw [hk] at h; cases h
      | some row =>
        rw [hk] at h
        have hz : (n, 0 + k, row) = z := Option.some.inj h
        subst hz
        unfold segsOf at hk
        rw [List.getElem?_map] at hk
        cases hv : (parted R r).1[k]? with
        | none => rw [hv] at hk; cases hk
        | some v =>
          rw [hv] at hk
          have hv2 : v.2 = row := Option.some.inj hk
          obtain ⟨u, h1, h2, h3, h4, h5⟩ := seg_at hv
          refine ⟨0, r, u, rfl, rfl, ?_, ?_, ?_⟩
          · rw [List.getElem?_append_left (by omega), List.getElem?_map]
            unfold segsPc
            rw [List.getElem?_map, h1]
            rfl
          · show row = _
            rw [← hv2, h2]
          · show Fh.endsOf (parted R r) (0 + k) = u
            rw [Nat.zero_add]
            exact h5
    · rw [List.getElem?_append_right (by omega), hl2] at h
      obtain ⟨i, r', u, h1, h2, h3, h4⟩ := numb_at R d (n + 1) (k - (segsOf R r).length) z h
      refine ⟨i + 1, r', u, by omega, h2, ?_, h4⟩
      rw [List.getElem?_append_right (by omega), hl]
      exact h3
theorem segs_few (R : Rules) (r : Row) : (segsPc R r).length ≤ r.length + 1 := by
  unfold segsPc segPl
  rw [List.length_map]
  have h1 := List.length_filterMap_le (segP r) (pairsFrom r.length 0 (cutsOf R r))
  rw [pairs_len] at h1
  have h2 := cuts_len R r
  omega
theorem numb_doc (R : Rules) : ∀ (d : Document) (n : Nat), (numbFrom n (d.map (lnPc R))).length ≤ (docText d).length
  | [], n => Nat.zero_le _
  | .raw t :: d, n => by
    have e : docText (.raw t :: d) = Line.text (.raw t) ++ docText d := rfl
    show (numbFrom (n + 1) (d.map (lnPc R))).length ≤ _
    rw [e, List.length_append]
    exact Nat.le_trans (numb_doc R d (n + 1)) (Nat.le_add_left ..)
  | .para r :: d, n => by
    have e : docText (.para r :: d) = Line.text (.para r) ++ docText d := rfl
    have h := numb_doc R d (n + 1)
    have h1 := segs_few R r
    have h2 := row_le_text r
    show ((segsPc R r).map _ ++ numbFrom (n + 1) (d.map (lnPc R))).length ≤ _
    rw [e, List.length_append, List.length_append, List.length_map, lnTxt_is, List.length_append]
    have h3 : (lnTxt (.para r)).length = (rowText r).length + 1 := rfl
    have h4 : ([10] : Bytes).length = 1 := rfl
    omega
theorem numb_text (R : Fh.Rules) : ∀ (x : Fh.Document) (i : Nat) (r : Fh.Row), x[i]? = some (.para r) → (Fh.rowText r).length ≤ (Fh.docText x).length
  | [], i, r, h => by simp at h
  | l :: x, 0, r, h => by
    have e : l = .para r := Option.some.inj h
    subst e
    have e2 : Fh.docText (.para r :: x) = Fh.Line.text (.para r) ++ Fh.docText x := rfl
    rw [e2, List.length_append, lnTxt_is, List.length_append]
    have h3 : (lnTxt (.para r)).length = (Fh.rowText r).length + 1 := rfl
    omega
  | l :: x, i + 1, r, h => by
    have := numb_text R x i r h
    have e2 : Fh.docText (l :: x) = Fh.Line.text l ++ Fh.docText x := rfl
    rw [e2, List.length_append]
    omega
end Sg

/-! SgDoS -/
set_option Elab.async false
set_option linter.all false
set_option maxRecDepth 100000
set_option maxHeartbeats 4000000
namespace Sg
open PySem PySem.Spec PyProof.Rows L2 LamX
section
variable {P : Program} {w : World} {K : PySem.W.Frag} {mg : Str → Option Value} {base : Heap} {CF CG CT CB CL CW CQ CE : Addr} {T : List (Addr × Str)}
/-! ### document_segments -/
def spDoS (T : List (Addr × Str)) (CG CT CB CQ : Addr) (K : PySem.W.Frag) : Sp := fun vs H Q E => ∃ (a b : Addr) (t d : Fh.Bytes), vs = [.ref a, .ref b] ∧ SqL K H a (bv t) ∧ SqL K H b (bv d) ∧ Tabs T H ∧ match docRes t d with
  | .big => Gone CT (-6) E
  | .kind k n => BadK CG E k n
  | .small => Gone CB (-6) E
  | .good R x => ∀ (H' : Hp) (N : Addr), NbL CQ (fun _ => True) H' N (numbFrom 0 (x.map (lnPc R))) → Fh.docText x = d → d.length ≤ 262144 → Q (.ref N) H'
theorem scDoS : FnScope ["t", "d"] ["t", "d"] (defScope sDoS) := ⟨rfl, rfl, rfl, by decide +kernel, rfl, by decide +kernel, by decide +kernel⟩
theorem ok_dos {f : Addr} {fd : FuncData} (F : Fun K "document_segments" "document_segments" sDoS f fd) (GL : CallOk P w K mg base (L2.CX P w) 14 "lines_and_segments" ["t", "d"] (spLaS T CG CT CB CL CW CQ K)) (GN : CallOk P w K mg base CX0 2 "numbered" ["by_line"] (spNbd CQ K)) :
    FnOk P w K mg base (L2.CX P w) 15 f fd ["t", "d"] (spDoS T CG CT CB CQ K) := by
  refine F.okX scDoS (fun vs H Q E h => ?_) (fun cdv A outer s H vs Q E hr h => ?_)
  · obtain ⟨a, b, t, d, rfl, _⟩ := h
    rfl
  · obtain ⟨a, b, t, d, rfl, hS, hT, tabs, out⟩ := h
    have hr2 : Room 2 (A.deeper (envOfC (Str.ofString "document_segments") (defScope sDoS) s.heap.objs.size f cdv)) := hr.mono (by decide)
    refine ⟨_, pss_one (ps_ret (pe_c GN hr2 (by rfl) pass0 (by exact (pa_cons (pe_ix ix_tup (pe_c GL hr (by rfl) (passOf rfl rfl rfl rfl) (by exact (pa_cons (pv 0) (pa_cons (pv 1) pa_nil)))) pe_int (fun _ _ => rfl)) pa_nil)))), ?_⟩
    refine ⟨_, rfl, _, rfl, a, b, t, d, rfl, hS, hT, tabs, ?_⟩
    cases hres : docRes t d with
    | big => rw [hres] at out; exact out
    | kind k n => rw [hres] at out; exact out
    | small => rw [hres] at out; exact out
    | good R x =>
      rw [hres] at out
      intro H' p L D e1 T1 hp hDoc
      obtain ⟨_, hD, _, htx, hdl⟩ := hDoc
      refine ⟨p, _, _, _, rfl, rfl, .inl (.inl hp), (show atI _ ((1 : Nat) : Int) = some (V.ref D) from atI_nat rfl), D, _, _, rfl, hD, ?_, fun H2 N s2 hN => out H2 N (hN.imp fun _ _ => trivial) htx hdl⟩
      have := numb_doc R x 0
      rw [htx] at this
      omega
/-! ### what is due of a call with a document -/
def docAns (t d : Fh.Bytes) (f : Fh.Rules → Fh.Document → FhSegs.Answer) : List Int := FbNeutral.numbers (FhSegs.ofDoc t d f)
theorem docAns_is (t d : Fh.Bytes) (f : Fh.Rules → Fh.Document → FhSegs.Answer) : docAns t d f = match docRes t d with
    | .big => [-6]
    | .kind _ _ => [-5]
    | .small => [-6]
    | .good R x => FbNeutral.numbers (f R x) := by
  unfold docAns FhSegs.ofDoc docRes FhSegs.rulesGiven
  by_cases h : 65536 < t.length ∨ 262144 < d.length
  · rw [if_pos h, if_pos (show Fh.RULETEXT < t.length ∨ Fh.DOCTEXT < d.length from h)]
    rfl
  · rw [if_neg h, if_neg (show ¬ (Fh.RULETEXT < t.length ∨ Fh.DOCTEXT < d.length) from h)]
    cases Fh.rulesRead t with
    | error e => rfl
    | ok R =>
      dsimp only
      by_cases q : R.small = true
      · rw [if_pos q, if_pos q]
        dsimp only
        cases Fh.docRead d <;> rfl
      · rw [if_neg q, if_neg q]
        rfl
theorem Told.kind {E : XK} {k n : Nat} (h : Told K CE E (-5)) (e : ErrK K CE CG) : BadK CG E k n := fun d H' hd => h CG d H' _ e hd (fk_number k n)
end
end Sg

/-! SgForm -/
set_option Elab.async false
set_option linter.all false
namespace Sg
open Fh
/-! ### how many stand behind one alike -/
section
variable {α : Type} [DecidableEq α]
def dup : List α → Nat
  | [] => 0
  | x :: m => (if x ∈ m then 1 else 0) + dup m
theorem dup_perm {l m : List α} (h : l.Perm m) : dup l = dup m := by
  induction h with
  | nil => rfl
  | cons x p ih =>
    unfold dup
    rw [ih]
    simp only [p.mem_iff]
  | swap x y l =>
    simp only [dup, List.mem_cons]
    by_cases q : x = y
    · subst q
      simp
    · have q' : ¬ y = x := fun z => q z.symm
      simp only [q, q', false_or]
      omega
  | trans _ _ a b => rw [a, b]
/-- from the front, with those that came before -/
def dupF : List α → List α → Nat
  | _, [] => 0
  | s, x :: m => (if x ∈ s then 1 else 0) + dupF (x :: s) m
theorem dupF_add : ∀ (m s : List α), dupF s m + dup s = dup (m.reverse ++ s)
  | [], s => by simp [dupF]
  | x :: m, s => by
    have ih := dupF_add m (x :: s)
    rw [List.reverse_cons, List.append_assoc]
    show (if x ∈ s then 1 else 0) + dupF (x :: s) m + dup s = dup (m.reverse ++ (x :: s))
    rw [← ih]
    show _ = dupF (x :: s) m + ((if x ∈ s then 1 else 0) + dup s)
    omega
theorem dupF_is (m : List α) : dupF [] m = dup m := by
  have := dupF_add m []
  rw [List.append_nil] at this
  have e : dup (α := α) [] = 0 := rfl
  rw [e, Nat.add_zero] at this
  rw [this]
  exact dup_perm (List.reverse_perm m)
/-- .. counted as neighbours -/
def near (o : Option α) : List α → Nat
  | [] => 0
  | x :: m => (if o = some x then 1 else 0) + near (some x) m
theorem near_fold [BEq α] [LawfulBEq α] : ∀ (m : List α) (n : Nat) (o : Option α), (m.foldl (fun (s : Nat × Option α) (x : α) => (if s.2 == some x then s.1 + 1 else s.1, some x)) (n, o)).1 = n + near o m
  | [], n, o => rfl
  | x :: m, n, o => by
    rw [List.foldl_cons, near_fold m]
    show (if (o == some x) = true then n + 1 else n) + near (some x) m = n + ((if o = some x then 1 else 0) + near (some x) m)
    by_cases q : o = some x
    · rw [if_pos (by simpa using q), if_pos q]
      omega
    · rw [if_neg (by simpa using q), if_neg q]
      omega
theorem near_dup {le : α → α → Bool} (anti : ∀ a b, le a b = true → le b a = true → a = b) : ∀ (m : List α), m.Pairwise (fun a b => le a b = true) → ∀ x, (∀ y ∈ m, le x y = true) → near (some x) m = (if x ∈ m then 1 else 0) + dup m
  | [], _, x, _ => rfl
  | y :: m, h, x, hx => by
    rw [List.pairwise_cons] at h
    have ih := near_dup anti m h.2 y h.1
    show (if some x = some y then 1 else 0) + near (some y) m = (if x ∈ y :: m then 1 else 0) + ((if y ∈ m then 1 else 0) + dup m)
    rw [ih]
    by_cases q : x = y
    · subst q
      simp
    · rw [if_neg (by simpa using q)]
      have : ¬ x ∈ y :: m := fun z => by
        rcases List.mem_cons.mp z with z | z
        · exact q z
        · exact q (anti x y (hx y (List.mem_cons_self ..)) (h.1 x z))
      rw [if_neg this]
theorem near_none {le : α → α → Bool} (anti : ∀ a b, le a b = true → le b a = true → a = b) (m : List α) (h : m.Pairwise (fun a b => le a b = true)) : near none m = dup m := by
  cases m with
  | nil => rfl
  | cons x m =>
    rw [List.pairwise_cons] at h
    show (if none = some x then 1 else 0) + near (some x) m = _
    rw [near_dup anti m h.2 x h.1, if_neg (by simp)]
    show 0 + ((if x ∈ m then 1 else 0) + dup m) = (if x ∈ m then 1 else 0) + dup m
    omega
end
theorem key_trans : ∀ (a b c : List Nat), FhSegs.keyBefore a b = true → FhSegs.keyBefore b c = true → FhSegs.keyBefore a c = true
  | [], _, _, _, _ => by simp [FhSegs.keyBefore]
  | _ :: _, [], _, h, _ => by simp [FhSegs.keyBefore] at h
  | _ :: _, _ :: _, [], _, h => by simp [FhSegs.keyBefore] at h
  | x :: a, y :: b, z :: c, h1, h2 => by
    simp only [FhSegs.keyBefore, Bool.or_eq_true, Bool.and_eq_true, decide_eq_true_eq, beq_iff_eq] at h1 h2 ⊢
    rcases h1 with h1 | ⟨h1, h1'⟩ <;> rcases h2 with h2 | ⟨h2, h2'⟩
    · exact .inl (by omega)
    · exact .inl (by omega)
    · exact .inl (by omega)
    · exact .inr ⟨by omega, key_trans a b c h1' h2'⟩
theorem key_total : ∀ (a b : List Nat), (FhSegs.keyBefore a b || FhSegs.keyBefore b a) = true
  | [], _ => by simp [FhSegs.keyBefore]
  | _ :: _, [] => by simp [FhSegs.keyBefore]
  | x :: a, y :: b => by
    have ih := key_total a b
    simp only [FhSegs.keyBefore, Bool.or_eq_true, Bool.and_eq_true, decide_eq_true_eq, beq_iff_eq] at ih ⊢
    by_cases q : x < y
    · exact .inl (.inl q)
    · by_cases q2 : y < x
      · exact .inr (.inl q2)
      · have e : x = y := by omega
        rcases ih with h | h
        · exact .inl (.inr ⟨e, h⟩)
        · exact .inr (.inr ⟨e.symm, h⟩)
theorem key_anti : ∀ (a b : List Nat), FhSegs.keyBefore a b = true → FhSegs.keyBefore b a = true → a = b
  | [], [], _, _ => rfl
  | [], _ :: _, _, h => by simp [FhSegs.keyBefore] at h
  | _ :: _, [], h, _ => by simp [FhSegs.keyBefore] at h
  | x :: a, y :: b, h1, h2 => by
    simp only [FhSegs.keyBefore, Bool.or_eq_true, Bool.and_eq_true, decide_eq_true_eq, beq_iff_eq] at h1 h2
    rcases h1 with h1 | ⟨h1, h1'⟩ <;> rcases h2 with h2 | ⟨h2, h2'⟩
    · omega
    · omega
    · omega
    · rw [h1, key_anti a b h1' h2']
theorem pieceKey_inj {p q : Piece} (h : FhSegs.pieceKey p = FhSegs.pieceKey q) : p = q := by
  cases p <;> cases q <;> simp only [FhSegs.pieceKey] at h <;> first
    | (congr 1; omega)
    | omega
theorem keys_inj : ∀ {a b : Row}, a.map FhSegs.pieceKey = b.map FhSegs.pieceKey → a = b
  | [], [], _ => rfl
  | [], _ :: _, h => by simp at h
  | _ :: _, [], h => by simp at h
  | x :: a, y :: b, h => by
    rw [List.map_cons, List.map_cons, List.cons.injEq] at h
    rw [pieceKey_inj h.1, keys_inj h.2]
theorem dup_map {α β : Type} [DecidableEq α] [DecidableEq β] (f : α → β) (inj : ∀ a b, f a = f b → a = b) : ∀ l : List α, dup (l.map f) = dup l
  | [] => rfl
  | x :: l => by
    show (if f x ∈ l.map f then 1 else 0) + dup (l.map f) = (if x ∈ l then 1 else 0) + dup l
    rw [dup_map f inj l]
    have : f x ∈ l.map f ↔ x ∈ l := ⟨fun h => by
      obtain ⟨y, hy, e⟩ := List.mem_map.mp h
      rw [← inj y x e]
      exact hy, fun h => List.mem_map.mpr ⟨x, h, rfl⟩⟩
    simp only [this]
/-- how many are of one form with an earlier one -/
theorem repeated_is (l : List Row) : FhSegs.repeated l = dupF [] (l.map formOf) := by
  unfold FhSegs.repeated
  rw [near_fold, Nat.zero_add, near_none key_anti _ (List.pairwise_mergeSort key_trans key_total _), dup_perm (List.mergeSort_perm _ _), dupF_is]
  have e : (l.map fun (r : Row) => (formOf r).map FhSegs.pieceKey) = (l.map formOf).map fun (r : Row) => r.map FhSegs.pieceKey := by
    rw [List.map_map]
    rfl
  rw [e]
  exact dup_map _ (fun a b h => keys_inj h) _
/-! ### words -/
/-- how many words begin; whether the piece before is of a word -/
def wcS : Bool → Row → Nat
  | _, [] => 0
  | inw, .char c :: r => if isWordChar c = true then (if inw = true then 0 else 1) + wcS true r else wcS false r
  | _, _ :: r => wcS false r
def isWordU : Unit_ → Bool
  | .word _ => true
  | _ => false
theorem iw_word (w : List Nat) : isWordU (.word w) = true := rfl
theorem iw_sign (c : Nat) : isWordU (.sign c) = false := rfl
theorem iw_tag (k n : Nat) : isWordU (.tag k n) = false := rfl
theorem fw_done (w : List Nat) : ((if w = [] then [] else [Unit_.word w]).filter isWordU).length = if w = [] then 0 else 1 := by
  by_cases q : w = []
  · rw [if_pos q, if_pos q]
    rfl
  · rw [if_neg q, if_neg q]
    rfl
theorem fw_sign (c : Nat) : ((if c = BLANK then [] else [Unit_.sign c]).filter isWordU).length = 0 := by
  by_cases q : c = BLANK
  · rw [if_pos q]
    rfl
  · rw [if_neg q]
    rfl
theorem fw_tag (k n : Nat) (l : List Unit_) : (Unit_.tag k n :: l).filter isWordU = l.filter isWordU := rfl
theorem units_words : ∀ (r : Row) (w : List Nat), ((unitsFrom w r).filter isWordU).length = (if w = [] then 0 else 1) + wcS (decide (w ≠ [])) r
  | [], w => fw_done w
  | .char c :: r, w => by
    by_cases hc : isWordChar c = true
    · have e : unitsFrom w (.char c :: r) = unitsFrom (w ++ [c]) r := by
        show (if isWordChar c = true then unitsFrom (w ++ [c]) r else _) = _
        rw [if_pos hc]
      rw [e, units_words r (w ++ [c]), if_neg (by simp)]
      show 1 + wcS (decide (w ++ [c] ≠ [])) r = (if w = [] then 0 else 1) + (if isWordChar c = true then (if decide (w ≠ []) = true then 0 else 1) + wcS true r else wcS false r)
      rw [if_pos hc, show decide (w ++ [c] ≠ []) = true by simp]
      by_cases q : w = []
      · simp [q]
      · simp [q]
    · have e : unitsFrom w (.char c :: r) = (if w = [] then [] else [Unit_.word w]) ++ ((if c = BLANK then [] else [Unit_.sign c]) ++ unitsFrom [] r) := by
        show (if isWordChar c = true then unitsFrom (w ++ [c]) r else _) = _
        rw [if_neg hc]
      rw [e, List.filter_append, List.filter_append, List.length_append, List.length_append, units_words r [], fw_done, fw_sign]
      show _ = (if w = [] then 0 else 1) + (if isWordChar c = true then _ else wcS false r)
      rw [if_neg hc]
      show (if w = [] then 0 else 1) + (0 + (0 + wcS false r)) = _
      omega
  | .open_ n :: r, w => by
    show (((if w = [] then [] else [Unit_.word w]) ++ (Unit_.tag 0 n :: unitsFrom [] r)).filter isWordU).length = _ + wcS false r
    rw [List.filter_append, List.length_append, fw_tag, units_words r [], fw_done]
    show (if w = [] then 0 else 1) + (0 + wcS false r) = _
    omega
  | .close n :: r, w => by
    show (((if w = [] then [] else [Unit_.word w]) ++ (Unit_.tag 1 n :: unitsFrom [] r)).filter isWordU).length = _ + wcS false r
    rw [List.filter_append, List.length_append, fw_tag, units_words r [], fw_done]
    show (if w = [] then 0 else 1) + (0 + wcS false r) = _
    omega
  | .alone n :: r, w => by
    show (((if w = [] then [] else [Unit_.word w]) ++ (Unit_.tag 2 n :: unitsFrom [] r)).filter isWordU).length = _ + wcS false r
    rw [List.filter_append, List.length_append, fw_tag, units_words r [], fw_done]
    show (if w = [] then 0 else 1) + (0 + wcS false r) = _
    omega
theorem wcS_renamed (f : Nat → Nat) : ∀ (r : Row) (b : Bool), wcS b (r.map (Piece.renamed f)) = wcS b r
  | [], b => rfl
  | .char c :: r, b => by
    show (if isWordChar c = true then (if b = true then 0 else 1) + wcS true (r.map (Piece.renamed f)) else wcS false (r.map (Piece.renamed f))) = _
    rw [wcS_renamed f r, wcS_renamed f r]
    rfl
  | .open_ n :: r, b => wcS_renamed f r false
  | .close n :: r, b => wcS_renamed f r false
  | .alone n :: r, b => wcS_renamed f r false
theorem words_is (r : Row) : wordsIn r = wcS false r := by
  have h := units_words (formOf r) []
  rw [if_pos rfl, Nat.zero_add] at h
  have h2 : wcS (decide (([] : List Nat) ≠ [])) (formOf r) = wcS false r := by
    unfold formOf
    exact wcS_renamed _ r false
  refine Eq.trans ?_ (h.trans h2)
  unfold wordsIn units
  refine congrArg List.length (List.filter_congr fun u _ => ?_)
  cases u <;> rfl
end Sg
namespace Sg
open Fh
/-! ### a form, made from the front -/
def grow (l : List Nat) (p : Piece) : List Nat := if p.isTag = true ∧ l.contains p.number = false then l ++ [p.number] else l
def renF : List Nat → Row → Row
  | _, [] => []
  | l, p :: r => p.renamed (placeOf (grow l p)) :: renF (grow l p) r
theorem numbers_pre : ∀ (r : Row) (l : List Nat), ∃ m, numbersOf r l = l ++ m
  | [], l => ⟨[], by simp [numbersOf]⟩
  | p :: r, l => by
    obtain ⟨m, h⟩ := numbers_pre r (grow l p)
    have e : numbersOf (p :: r) l = numbersOf r (grow l p) := rfl
    rw [e, h]
    unfold grow
    split
    · exact ⟨p.number :: m, by simp⟩
    · exact ⟨m, rfl⟩
theorem place_pre {l m : List Nat} {n : Nat} (h : n ∈ l) : placeOf (l ++ m) n = placeOf l n := by
  unfold placeOf
  rw [List.idxOf_append, if_pos h]
theorem grow_mem (l : List Nat) (p : Piece) (h : p.isTag = true) : p.number ∈ grow l p := by
  unfold grow
  by_cases q : l.contains p.number = false
  · rw [if_pos ⟨h, q⟩]
    simp
  · rw [if_neg fun z => q z.2]
    simpa using q
theorem renamed_eq {f g : Nat → Nat} : ∀ (p : Piece), (p.isTag = true → f p.number = g p.number) → p.renamed f = p.renamed g
  | .char c, _ => rfl
  | .open_ n, h => congrArg Piece.open_ (h rfl)
  | .close n, h => congrArg Piece.close (h rfl)
  | .alone n, h => congrArg Piece.alone (h rfl)
theorem renF_is : ∀ (r : Row) (l : List Nat), r.map (Piece.renamed (placeOf (numbersOf r l))) = renF l r
  | [], l => rfl
  | p :: r, l => by
    have e : numbersOf (p :: r) l = numbersOf r (grow l p) := rfl
    obtain ⟨m, hm⟩ := numbers_pre r (grow l p)
    rw [List.map_cons, e, renF_is r (grow l p)]
    show _ = p.renamed (placeOf (grow l p)) :: renF (grow l p) r
    congr 1
    refine renamed_eq p fun ht => ?_
    rw [hm]
    exact place_pre (grow_mem l p ht)
theorem formOf_is (r : Row) : formOf r = renF [] r := renF_is r []
end Sg

/-! SgTgM -/
set_option Elab.async false
set_option linter.all false
namespace Sg
open Fh
/-! ### tags in an order -/
def keyP (p : Piece) : Int × Int := ((tagK p : Nat), (tagN p : Nat))
def ltK (x y : Int × Int) : Bool := decide (x.1 < y.1) || (decide (x.1 = y.1) && decide (x.2 < y.2))
theorem keyP_inj {p q : Piece} (h : keyP p = keyP q) : p = q := by
  unfold keyP at h
  have h1 : ((tagK p : Nat) : Int) = (tagK q : Nat) := congrArg Prod.fst h
  have h2 : ((tagN p : Nat) : Int) = (tagN q : Nat) := congrArg Prod.snd h
  cases p <;> cases q <;> simp only [tagK, tagN, Piece.number] at h1 h2 <;> first
    | (congr 1; omega)
    | omega
theorem ltK_antis {x y : Int × Int} (h1 : ltK x y = false) (h2 : ltK y x = false) : x = y := by
  obtain ⟨a, b⟩ := x
  obtain ⟨c, d⟩ := y
  unfold ltK at h1 h2
  simp only [Bool.or_eq_false_iff, Bool.and_eq_false_iff, decide_eq_false_iff_not] at h1 h2
  have e1 : a = c := by omega
  subst e1
  have e2 : b = d := by omega
  rw [e2]
/-- sorted by their keys, lists of the same pieces are the same -/
theorem sorted_same : ∀ {l m : List Piece}, l.Perm m → (l.Pairwise fun x y => ltK (keyP y) (keyP x) = false) → (m.Pairwise fun x y => ltK (keyP y) (keyP x) = false) → l = m := fun {l m} p h1 h2 => by
  exact List.Perm.eq_of_pairwise (fun a b _ _ x y => keyP_inj (ltK_antis y x)) h1 h2 p
theorem perm_of_counts {α : Type} [BEq α] [LawfulBEq α] : ∀ (s t : List α), s.length = t.length → (∀ a ∈ s, s.count a = t.count a) → s.Perm t
  | [], t, h, _ => by
    have : t = [] := List.eq_nil_of_length_eq_zero h.symm
    rw [this]
  | a :: s, t, h, k => by
    have m : a ∈ t := List.count_pos_iff.mp (by rw [← k a (List.mem_cons_self ..), List.count_cons_self]; omega)
    have p := List.perm_cons_erase m
    have ih := perm_of_counts s (t.erase a) (by have := p.length_eq; simp only [List.length_cons] at this h; omega) fun b hb => by
      have e := k b (List.mem_cons_of_mem _ hb)
      rw [p.count_eq b, List.count_cons, List.count_cons] at e
      omega
    exact (ih.cons a).trans p.symm
/-- the same tags, as the specification counts them -/
theorem sameTags_perm (s t : Row) : sameTags s t = true ↔ (tagsOf t).Perm (tagsOf s) := by
  unfold sameTags
  rw [Bool.and_eq_true, decide_eq_true_eq, List.all_eq_true]
  constructor
  · rintro ⟨h1, h2⟩
    exact (perm_of_counts _ _ h1 fun a ha => by simpa using h2 a ha).symm
  · intro p
    refine ⟨p.length_eq.symm, fun a _ => ?_⟩
    rw [p.count_eq]
    simp
theorem fits_hv {s t : Row} (hs : straight s = true) : fits s t = (decide (hvM [] [] [] t = hvM [] [] [] s) && decide ((tagsOf t).Perm (tagsOf s))) := by
  have e1 : hvM [] [] [] s = halves s := by rw [hvM_is, if_pos hs]
  unfold fits
  cases ht : straight t with
  | false =>
    have e2 : hvM [] [] [] t = none := by rw [hvM_is, ht]; rfl
    have e3 : hvM [] [] [] s ≠ none := by
      rw [e1]
      intro z
      unfold straight at hs
      rw [z] at hs
      cases hs
    rw [e2, decide_eq_false (fun z => e3 z.symm)]
    rfl
  | true =>
    have e2 : hvM [] [] [] t = halves t := by rw [hvM_is, if_pos ht]
    rw [e1, e2, Bool.true_and]
    have e3 : (halves s == halves t) = decide (halves t = halves s) := by
      by_cases q : halves t = halves s
      · rw [decide_eq_true q, q]
        simp
      · rw [decide_eq_false q]
        exact beq_eq_false_iff_ne.mpr fun z => q z.symm
    have e4 : sameTags s t = decide ((tagsOf t).Perm (tagsOf s)) := by
      by_cases q : (tagsOf t).Perm (tagsOf s)
      · rw [decide_eq_true q]
        exact (sameTags_perm s t).mpr q
      · rw [decide_eq_false q]
        cases e : sameTags s t with
        | false => rfl
        | true => exact absurd ((sameTags_perm s t).mp e) q
    rw [e3, e4, Bool.and_comm]
end Sg

/-! SgKD -/
set_option Elab.async false
set_option linter.all false
set_option maxRecDepth 100000
set_option maxHeartbeats 4000000
/-! ### a dict whose keys are tuples of pieces -/
namespace Sg
open PySem PySem.Spec PyProof.Rows L2
/-- a row as a tuple of pieces -/
def FmAt (H : Hp) (t : Addr) (r : Fh.Row) : Prop := ∃ ys : List Addr, H t = some (.tup (ys.map V.ref)) ∧ Paired (fun (y : Addr) (p : Fh.Piece) => H y = some (pcT p)) ys r
theorem FmAt.keep {H H' : Hp} {t : Addr} {r : Fh.Row} (h : FmAt H t r) (g : ∀ b xs, H b = some (.tup xs) → H' b = some (.tup xs)) : FmAt H' t r := by
  obtain ⟨ys, h1, h2⟩ := h
  exact ⟨ys, g _ _ h1, h2.mono fun _ _ z => g _ _ z⟩
theorem FmAt.same {H H' : Hp} {t : Addr} {r : Fh.Row} (h : FmAt H t r) (s : Same H H') : FmAt H' t r := h.keep fun b xs e => s b _ e
/-- .. as a key -/
def pcK (p : Fh.Piece) : NestedKey := .tup [.num (tagK p : Nat), .num (tagN p : Nat)]
def rwK (r : Fh.Row) : NestedKey := .tup (r.map pcK)
theorem pcK_inj {p q : Fh.Piece} (h : pcK p = pcK q) : p = q := by
  have h1 : ((tagK p : Nat) : Int) = (tagK q : Nat) ∧ ((tagN p : Nat) : Int) = (tagN q : Nat) := by
    injection h with h
    injection h with h1 h2
    injection h1 with h1
    injection h2 with h2 _
    injection h2 with h2
    exact ⟨h1, h2⟩
  exact keyP_inj (Prod.ext h1.1 h1.2)
theorem rwK_inj {r s : Fh.Row} (h : rwK r = rwK s) : r = s := by
  injection h with h
  induction r generalizing s with
  | nil =>
    cases s with
    | nil => rfl
    | cons _ _ => cases h
  | cons p r ih =>
    cases s with
    | nil => cases h
    | cons q s =>
      rw [List.map_cons, List.map_cons] at h
      injection h with h1 h2
      rw [pcK_inj h1, ih h2]
theorem pcs_depth : ∀ r : Fh.Row, NestedKey.depthAll (r.map pcK) ≤ 1
  | [] => Nat.zero_le _
  | p :: r => by
    have := pcs_depth r
    have e : (pcK p).depth = 1 := rfl
    rw [List.map_cons, NestedKey.depthAll, e]
    omega
theorem rwK_depth (r : Fh.Row) : (rwK r).depth ≤ 8 := by
  have := pcs_depth r
  unfold rwK
  rw [NestedKey.depth]
  omega
section
variable {P : Program} {w : World} {H : Hp} {h : Heap}
theorem pcK_is (ok : HOk P w H h) {y : Addr} {p : Fh.Piece} (e : H y = some (pcT p)) : NestedIs h (pcK p) (.ref y) := by
  obtain ⟨_, its, rv, o, ho, hc, n, hd⟩ := (show ObjOk P w H h y (pcT p) from ok y _ e)
  obtain ⟨u, v, rfl, ⟨t1, rfl⟩, ⟨t2, rfl⟩⟩ := vals2 rv
  exact .tup ho hc hd (.cons (.int _ _) (.cons (.int _ _) .nil))
theorem pcs_is (ok : HOk P w H h) : ∀ {ys : List Addr} {r : Fh.Row} {us : List Value}, Paired (fun (y : Addr) (p : Fh.Piece) => H y = some (pcT p)) ys r → Vals (ys.map V.ref) us → NestedAll h (r.map pcK) us
  | _, _, _, .nil, .nil => .nil
  | _, _, _, .cons a t, .cons b u => by
    cases b
    exact .cons (pcK_is ok a) (pcs_is ok t u)
theorem rwK_is (ok : HOk P w H h) {t : Addr} {r : Fh.Row} (e : FmAt H t r) : (nestedKind P w).is h (rwK r) t := by
  obtain ⟨ys, h1, h2⟩ := e
  obtain ⟨_, its, rv, o, ho, hc, n, hd⟩ := (show ObjOk P w H h t (.tup (ys.map V.ref)) from ok t _ h1)
  exact ⟨.tup ho hc hd (by simpa using pcs_is ok h2 rv), rwK_depth r⟩
end
/-- the entries of a dict that holds True at each of these rows -/
def kdX (xs : List (Fh.Row × Addr)) : List (NestedKey × Addr × Value) := xs.map fun x => (rwK x.1, x.2, Value.bool true)
/-- what stands at such a dict -/
def KD (P : Program) (w : World) (a : Addr) (xs : List (Fh.Row × Addr)) : HO := .ext fun h => (a == sysModules) = false ∧ xs.length ≤ sizeLine ∧ ∃ o es ep, h.get? a = some o ∧ o.ExactDict ∧ o.data = .dict es ep ∧ es.toList = (kdX xs).map (entryOfKey (nestedKind P w)) ∧ ((kdX xs).map (·.1)).Nodup
/-- the keys' tuples -/
def KdAt (H : Hp) (xs : List (Fh.Row × Addr)) : Prop := ∀ x ∈ xs, FmAt H x.2 x.1
theorem KdAt.keep {H H' : Hp} {xs : List (Fh.Row × Addr)} (h : KdAt H xs) (g : ∀ b ys, H b = some (.tup ys) → H' b = some (.tup ys)) : KdAt H' xs := fun x hx => (h x hx).keep g
def kdPut (xs : List (Fh.Row × Addr)) (r : Fh.Row) (t : Addr) : List (Fh.Row × Addr) := if r ∈ xs.map (·.1) then xs else xs ++ [(r, t)]
theorem kd_at (r : Fh.Row) : ∀ xs : List (Fh.Row × Addr), (atKey (kdX xs) (rwK r)).isSome = decide (r ∈ xs.map (·.1))
  | [] => by simp [kdX, atKey]
  | x :: xs => by
    have ih := kd_at r xs
    by_cases q : x.1 = r
    · have e : (atKey (kdX (x :: xs)) (rwK r)).isSome = true := by
        simp [kdX, atKey, List.find?_cons, q]
      rw [e, decide_eq_true (by rw [List.map_cons, q]; exact List.mem_cons_self ..)]
    · have q' : ¬ rwK x.1 = rwK r := fun z => q (rwK_inj z)
      have e : atKey (kdX (x :: xs)) (rwK r) = atKey (kdX xs) (rwK r) := by
        simp [kdX, atKey, List.find?_cons, q']
      rw [e, ih]
      have : (r ∈ (x :: xs).map (·.1)) ↔ r ∈ xs.map (·.1) := by
        rw [List.map_cons, List.mem_cons]
        exact ⟨fun z => z.resolve_left fun y => q y.symm, .inr⟩
      simp only [this]
theorem kd_stored (xs : List (Fh.Row × Addr)) (r : Fh.Row) (t : Addr) : storedH (kdX xs) (rwK r) t (.bool true) = kdX (kdPut xs r t) := by
  unfold storedH kdPut
  rw [kd_at]
  by_cases q : r ∈ xs.map (·.1)
  · rw [if_pos (decide_eq_true q), if_pos q]
    unfold kdX
    rw [List.map_map]
    refine List.map_congr_left fun x _ => ?_
    show putAt (rwK r) (.bool true) (rwK x.1, x.2, .bool true) = _
    unfold putAt
    split <;> rfl
  · rw [if_neg (by simpa using q), if_neg q]
    unfold kdX
    rw [List.map_append]
    rfl
theorem kdPut_len (xs : List (Fh.Row × Addr)) (r : Fh.Row) (t : Addr) : (kdPut xs r t).length = xs.length + if r ∈ xs.map (·.1) then 0 else 1 := by
  unfold kdPut
  split
  · rfl
  · rw [List.length_append]
    rfl
section
variable {X : Cx} {pins : List (Addr × Obj)} {σ : L2.St} {H : Hp} {s : Shared} {a : Addr}
theorem kd_of {P : Program} {w : World} {h : Heap} {xs : List (Fh.Row × Addr)} (ok : HOk P w H h) (e : H a = some (KD P w a xs)) (hk : KdAt H xs) : (a == sysModules) = false ∧ xs.length ≤ sizeLine ∧ h.DictOfH (nestedKind P w) a (kdX xs) := by
  obtain ⟨⟨z, hl, o, es, ep, h1, h2, h3, h4, h5⟩, _⟩ := (show ObjOk P w H h a (KD P w a xs) from ok a _ e)
  refine ⟨z, hl, o, es, ep, h1, h2, h3, h4, fun x hx => ?_, h5⟩
  obtain ⟨y, hy, rfl⟩ := List.mem_map.mp hx
  exact rwK_is ok (hk y hy)
theorem kd_new {P : Program} {w : World} {H' : Hp} {h' : Heap} {xs : List (Fh.Row × Addr)} (z : (a == sysModules) = false) (hl : xs.length ≤ sizeLine) (d : h'.DictOfH (nestedKind P w) a (kdX xs)) : ObjOk P w H' h' a (KD P w a xs) := by
  obtain ⟨o, es, ep, h1, h2, h3, h4, _, h5⟩ := d
  exact ⟨⟨z, hl, o, es, ep, h1, h2, h3, h4, h5⟩, ⟨o, h1⟩, fun g1 g2 p k => by
    obtain ⟨z, hl, o, es, ep, h1, h2, h3, h4, h5⟩ := p
    exact ⟨z, hl, o, es, ep, k _ h1, h2, h3, h4, h5⟩⟩
end
/-- {} -/
def tKdNew (P : Program) (w : World) : TE := fun _ H Q => ∀ p, H p = none → Q (.ref p) (upd H p (KD P w p []))
/-- forms[key] = True -/
def sKdPut (P : Program) (w : World) (td ty tv : TE) : TS := fun D σ H => tv σ H fun v H1 => td σ H1 fun x H2 => ty σ H2 fun y H3 => ∃ (a t : Addr) (xs : List (Fh.Row × Addr)) (r : Fh.Row), x = .ref a ∧ y = .ref t ∧ v = .bl true ∧ H3 a = some (KD P w a xs) ∧ KdAt H3 xs ∧ FmAt H3 t r ∧ xs.length < sizeLine ∧
  D.nx σ (upd H3 a (KD P w a (kdPut xs r t)))
def rKdLen (P : Program) (w : World) : List V → Hp → VK → Prop := fun vs H Q => ∃ (a : Addr) (xs : List (Fh.Row × Addr)), vs = [.ref a] ∧ H a = some (KD P w a xs) ∧ KdAt H xs ∧ Q (.int (xs.length : Nat)) H
section
variable {X : Cx} {o i value : Expr} {pos pos' : Pos} {td ty tv : TE}
theorem pe_kdnew : PE X (.Dict [] [] pos) (tKdNew X.prog X.w) := ⟨fun pins s σ H Q I h =>
  wpAny_Dict_empty ⟨.ref s.heap.objs.size, _, I.laid (a := s.heap.objs.size) (o := KD X.prog X.w s.heap.objs.size []) (t' := s.toks) (fun _ _ q => Heap.get?_push_of_some _ q) (Nat.le_refl _)
    (kd_new (beq_eq_false_iff_ne.mpr (Ne.symm (Nat.ne_of_lt I.big))) (Nat.zero_le _) (Heap.DictOfH.new s.heap)), rfl, h _ (I.hok.fresh (Nat.le_refl _))⟩⟩
theorem ps_kdput (hu : X.A.units + 64 < cLine) (ho : PE X o td) (hi : PE X i ty) (hv : PE X value tv) (hs : swapsWith value (some (.Subscript o i pos')) pos.line X.env = pure false) :
    PS X (.Assign [.Subscript o i pos'] value pos) (sKdPut X.prog X.w td ty tv) := by
  refine ⟨fun pins s σ H D I h => ?_⟩
  refine wpAny_Assign_Subscript (thn (hv.run pins s σ H _ I h) fun r s1 ⟨v, H1, I1, rv, q1⟩ => thn (ho.run pins s1 σ H1 _ I1 q1) fun u s2 ⟨x, H2, I2, rx, q2⟩ => thn (hi.run pins s2 σ H2 _ I2 q2) fun iv s3 ⟨y, H3, I3, ry, a, t, xs, k, ex, ey, ev, e, hk, hf, hl, q3⟩ => ?_) hs
  subst ex ey ev
  obtain rfl : u = Value.ref a := rx
  obtain rfl : iv = Value.ref t := ry
  obtain rfl : r = Value.bool true := rv
  obtain ⟨z, hz, dd⟩ := kd_of I3.hok e hk
  have hz2 : (kdX xs).length ≤ sizeLine := by
    unfold kdX
    rw [List.length_map]
    exact hz
  refine wpAny_setItem_heap (hsz := hz2) (k := rwK k) (by show X.A.units + 1 + 8 < cLine; omega) (rwK_is I3.hok hf) dd fun h' dd' hs => ?_
  rw [kd_stored] at dd'
  have hl2 : (kdPut xs k t).length ≤ sizeLine := by
    rw [kdPut_len]
    split <;> omega
  have he : ∃ q, h'.get? a = some q := let ⟨q, _, _, hq, _⟩ := dd'; ⟨q, hq⟩
  exact ⟨σ, _, d_write I3 (by rw [e]; exact True.intro) hs he (kd_new z hl2 dd'), q3⟩
theorem call_kdlen : CallR X (.builtin "len") (rKdLen X.prog X.w) := by
  intro pins s σ H xs us Q I r h
  obtain ⟨p, kvs, rfl, hp, hk, q⟩ := h
  obtain ⟨u, rfl, rx⟩ := vals1 r
  obtain rfl : u = .ref p := rx
  obtain ⟨z, hz, dd⟩ := kd_of I.hok hp hk
  have hl : (kdX kvs).length = kvs.length := by
    unfold kdX
    rw [List.length_map]
  refine call_len_dictH z dd (by rw [hl]; rw [sizeLine_eq] at hz; omega) ?_
  rw [hl]
  exact ⟨.int ((kvs.length : Nat) : Int), H, I.tok _, ⟨_, rfl⟩, q⟩
end
end Sg

/-! SgFrm -/
set_option Elab.async false
set_option linter.all false
set_option maxRecDepth 100000
set_option maxHeartbeats 4000000
namespace Sg
open PySem PySem.Spec PyProof.Rows L2
/-! ### numbers that were met, in a dict -/
def NumKv (kvs : List (Key × V)) (ns : List Nat) : Prop := kvs.length = ns.length ∧ ∀ n : Nat, valV kvs (Sum.inl ((n : Nat) : Int) : Key) = if n ∈ ns then some (V.int (Fh.placeOf ns n : Nat)) else none
theorem NumKv.put {kvs : List (Key × V)} {ns : List Nat} {n : Nat} (h : NumKv kvs ns) (hn : ¬ n ∈ ns) : NumKv (putK kvs (Sum.inl ((n : Nat) : Int)) (V.int ((ns.length + 1 : Nat) : Int))) (ns ++ [n]) := by
  obtain ⟨h1, h2⟩ := h
  have hv : valV kvs (Sum.inl ((n : Nat) : Int) : Key) = none := by rw [h2 n, if_neg hn]
  refine ⟨?_, fun m => ?_⟩
  · rw [putK_new _ hv, List.length_append, List.length_append, h1]
    rfl
  · rw [valV_put]
    by_cases q : m = n
    · subst q
      rw [if_pos rfl, if_pos (by simp)]
      unfold Fh.placeOf
      rw [List.idxOf_append, if_neg hn]
      simp
    · rw [if_neg (fun z => q (by have := Sum.inl.inj z; omega)), h2 m]
      by_cases q2 : m ∈ ns
      · rw [if_pos q2, if_pos (List.mem_append_left _ q2), place_pre q2]
      · rw [if_neg q2, if_neg (by simp [q, q2])]
theorem grow_char {l : List Nat} {p : Fh.Piece} (h : tagK p = 0) : grow l p = l := by
  cases p with
  | char c => rfl
  | open_ n => simp [tagK] at h
  | close n => simp [tagK] at h
  | alone n => simp [tagK] at h
theorem ren_char {f : Nat → Nat} {p : Fh.Piece} (h : tagK p = 0) : p.renamed f = p := by
  cases p with
  | char c => rfl
  | open_ n => simp [tagK] at h
  | close n => simp [tagK] at h
  | alone n => simp [tagK] at h
theorem grow_tag {l : List Nat} {p : Fh.Piece} (h : ¬ tagK p = 0) : grow l p = if tagN p ∈ l then l else l ++ [tagN p] := by
  have key : p.isTag = true ∧ p.number = tagN p := by
    cases p with
    | char c => exact absurd rfl h
    | open_ n => exact ⟨rfl, rfl⟩
    | close n => exact ⟨rfl, rfl⟩
    | alone n => exact ⟨rfl, rfl⟩
  unfold grow
  rw [key.1, key.2]
  by_cases q : tagN p ∈ l
  · rw [if_pos q, if_neg (by simp [q])]
  · rw [if_neg q, if_pos (by simp [q])]
theorem ren_tag {f : Nat → Nat} {p : Fh.Piece} (h : ¬ tagK p = 0) : pcT (p.renamed f) = .tup [.int (tagK p : Nat), .int (f (tagN p) : Nat)] := by
  cases p with
  | char c => exact absurd rfl h
  | open_ n => rfl
  | close n => rfl
  | alone n => rfl
section
variable {P : Program} {w : World} {K : PySem.W.Frag} {mg : Str → Option Value} {base : Heap}
/-! ### form_of -/
def spForm : Sp := fun vs H Q _ => ∃ (l : Addr) (r : Fh.Row) (F : Addr → Prop), vs = [.ref l] ∧ RowAt F H l r ∧ r.length ≤ 262144 ∧ ∀ (H' : Hp) (t : Addr), Same H H' → FmAt H' t (Fh.formOf r) → Q (.ref t) H'
theorem scForm : FnScope ["pieces", "renamed", "found", "kind", "number"] ["pieces"] (defScope sForm) := ⟨rfl, rfl, rfl, by decide +kernel, rfl, by decide +kernel, by decide +kernel⟩
theorem ok_form {f : Addr} {fd : FuncData} (F : Fun K "form_of" "form_of" sForm f fd) (TW : TxW mg) (TN : TxN mg) (tup : mg "tuple" = none) : FnOk P w K mg base CX0 2 f fd ["pieces"] spForm := by
  refine F.ok scForm (fun vs H Q E h => ?_) (fun cdv A outer s H vs Q E hr h => ?_)
  · obtain ⟨l, r, G, rfl, _⟩ := h
    rfl
  · obtain ⟨lo, r, G, rfl, ⟨_, xs, hx, hP⟩, hlen, k⟩ := h
    refine ⟨_, pss_cons (ps_set (i := 1) scForm.nd rfl (Or.inl rfl) pe_dnewK)
      (pss_cons (ps_set (i := 2) scForm.nd rfl (Or.inl rfl) (pe_lst pa_nil))
      (pss_cons (ps_for PassesOwn.never rfl (pi_list (pv 0)) (pg_tup rfl (pgs_cons (pg_name (i := 3) scForm.nd rfl (Or.inl rfl)) (pgs_cons (pg_name (i := 4) scForm.nd rfl (Or.inl rfl)) pgs_nil)))
        (pss_one (ps_if (pt_cmpR op_eq (pv 3) (pe_k TW.char (by rfl)) (nomark _))
          (pss_one (ps_expr (pe_bm PySem.F.plainAttrs_list PySem.F.slot_list_append PySem.F.type_list_append mt_append (pv 2) (pa_cons (pe_tup (pa_cons (pv 3) (pa_cons (pv 4) pa_nil))) pa_nil))))
          (pss_one (ps_expr (pe_bm PySem.F.plainAttrs_list PySem.F.slot_list_append PySem.F.type_list_append mt_append (pv 2) (pa_cons (pe_tup (pa_cons (pv 3) (pa_cons (pe_dsetd (pv 1) (pv 4) (pe_op op_add (pe_callB call_lenD (by rfl) TN.len PySem.boot_len (pa_cons (pv 1) pa_nil)) pe_int) ⟨rfl, rfl, rfl, rfl⟩) pa_nil))) pa_nil)))))))
      (pss_one (ps_ret (pe_callTy call_tuple_of (by rfl) tup PyProof.Rows.boot_tuple (pa_cons (pv 2) pa_nil)))))), ?_⟩
    have h70 : (262146 : Nat) < sizeLine := by decide
    have two : 2 ≤ sizeLine := by decide
    refine fun D hD => ?_
    refine ⟨(by show 0 ≤ sizeLine; decide), fun L hLD => ?_⟩
    have hLD' : L ≠ D := (fresh_new hLD).1
    have hL : H L = none := (fresh_new hLD).2
    have hS0 : Same H (upd (upd H D (.dK [])) L (.lst [])) := (same_new hD).trans (same_new hLD)
    refine ⟨_, rfl, lo, rfl, ⟨_, SqL.of (hS0 _ _ hx)⟩, for_list (xs := xs.map V.ref) (fun i σ H' => ∃ (o1 o2 : Option V) (ys : List Addr) (ns : List Nat) (kvs : List (Key × V)) (q : Fh.Row), σ = [some (.ref lo), some (.ref D), some (.ref L), o1, o2] ∧ Same H H' ∧ H' D = some (.dK kvs) ∧ H' L = some (.lst (ys.map V.ref)) ∧
        Paired (fun (y : Addr) (p : Fh.Piece) => H' y = some (pcT p)) ys q ∧ NumKv kvs ns ∧ ns.length ≤ i ∧ q.length = i ∧ q ++ renF ns (r.drop i) = Fh.formOf r)
      ⟨none, none, [], [], [], [], rfl, hS0, ?_, upd_same, .nil, ⟨rfl, fun n => rfl⟩, Nat.zero_le _, rfl, ?_⟩ ?_ ?_ ?_⟩
    · rw [upd_ne (Ne.symm hLD')]
      exact upd_same
    · rw [formOf_is]
      rfl
    · rintro i σ H' _ ⟨o1, o2, ys, ns, kvs, q, rfl, hS, _⟩
      exact SqL.of (hS _ _ hx)
    · rintro i v σ H' hv ⟨o1, o2, ys, ns, kvs, q, rfl, hS, hHD, hHL, hys, hnk, hnl, hql, heq⟩
      rw [List.getElem?_map] at hv
      cases hy : xs[i]? with
      | none => rw [hy] at hv; cases hv
      | some y =>
        rw [hy] at hv
        obtain rfl : V.ref y = v := Option.some.inj hv
        obtain ⟨pc, hpc, _, hY⟩ := paired_get hP hy
        have hi : i < r.length := (List.getElem?_eq_some_iff.mp hpc).1
        have hdr : r.drop i = pc :: r.drop (i + 1) := by
          rw [List.drop_eq_getElem_cons hi, (List.getElem?_eq_some_iff.mp hpc).2]
        rw [hdr] at heq
        have heq : (q ++ [pc.renamed (Fh.placeOf (grow ns pc))]) ++ renF (grow ns pc) (r.drop (i + 1)) = Fh.formOf r := by
          rw [← heq, List.append_assoc]
          rfl
        -- a new piece behind the others
        have fin : ∀ (H2 : Hp) (kv2 : List (Key × V)) (t : Addr) (vs : List V), Same H H2 → H2 D = some (.dK kv2) → H2 L = some (.lst (ys.map V.ref)) → (∀ b zs, H' b = some (.tup zs) → H2 b = some (.tup zs)) → NumKv kv2 (grow ns pc) → (grow ns pc).length ≤ i + 1 → H2 t = none →
            pcT (pc.renamed (Fh.placeOf (grow ns pc))) = .tup vs → ∀ (o1 o2 : Option V), (ys.map V.ref).length < sizeLine ∧ ∃ (p1 p2 : Option V) (ys2 : List Addr) (ns2 : List Nat) (kvs : List (Key × V)) (q : Fh.Row), [some (.ref lo), some (.ref D), some (.ref L), o1, o2] = [some (.ref lo), some (.ref D), some (.ref L), p1, p2] ∧ Same H (upd (upd H2 t (.tup vs)) L (.lst (ys.map V.ref ++ [V.ref t]))) ∧ upd (upd H2 t (.tup vs)) L (.lst (ys.map V.ref ++ [V.ref t])) D = some (.dK kvs) ∧ upd (upd H2 t (.tup vs)) L (.lst (ys.map V.ref ++ [V.ref t])) L = some (.lst (ys2.map V.ref)) ∧
              Paired (fun (y : Addr) (p : Fh.Piece) => upd (upd H2 t (.tup vs)) L (.lst (ys.map V.ref ++ [V.ref t])) y = some (pcT p)) ys2 q ∧ NumKv kvs ns2 ∧ ns2.length ≤ i + 1 ∧ q.length = i + 1 ∧ q ++ renF ns2 (r.drop (i + 1)) = Fh.formOf r := by
          intro H2 kv2 t vs s2 hd2 hl2 ht2 hn2 hg2 htn hvs o1 o2
          have htD : D ≠ t := ne_of_none hd2 htn
          have htL : L ≠ t := ne_of_none hl2 htn
          refine ⟨?_, o1, o2, ys ++ [t], grow ns pc, kv2, q ++ [pc.renamed (Fh.placeOf (grow ns pc))], rfl, fun b o e => ?_, ?_, ?_, ?_, hn2, hg2, ?_, heq⟩
          · rw [List.length_map, hys.length, hql]
            omega
          · rw [upd_ne (ne_of_none e hL)]
            exact same_new htn b o (s2 b o e)
          · rw [upd_ne (Ne.symm hLD'), upd_ne htD]
            exact hd2
          · rw [upd_same, List.map_append]
            rfl
          · have hT : ∀ (b : Addr) (zs : List V), upd H2 t (.tup vs) b = some (.tup zs) → upd (upd H2 t (.tup vs)) L (.lst (ys.map V.ref ++ [V.ref t])) b = some (.tup zs) := fun b zs e => by
              have hbL : b ≠ L := fun z => by
                rw [z, upd_ne htL, hl2] at e
                cases e
              rw [upd_ne hbL]
              exact e
            refine paired_snoc (hys.mono fun b p e => hT b _ (same_new htn b _ (ht2 b _ e))) ?_
            rw [hvs]
            exact hT t vs upd_same
          · rw [List.length_append, hql]
            rfl
        refine ⟨y, _, rfl, .inl (.inl (hS _ _ hY)), rfl, _, _, rfl, _, _, rfl, rfl, ?_⟩
        refine ⟨_, rfl, rfl, _, rfl, ?_⟩
        rw [show decide (V.int (tagK pc : Nat) = V.int 0) = decide (tagK pc = 0) from decI (b := 0)]
        by_cases hc : tagK pc = 0
        · rw [decide_eq_true hc]
          have hg := grow_char (l := ns) hc
          refine iteT ⟨_, rfl, .inl ⟨rfl, _, SqL.of hHL⟩, _, rfl, _, rfl, two, fun t ht => ?_⟩
          obtain ⟨f1, f2⟩ := fin H' kvs t [.int (tagK pc : Nat), .int (tagN pc : Nat)] hS hHD hHL (fun _ _ e => e) (by rw [hg]; exact hnk) (by rw [hg]; omega) ht (by rw [ren_char hc]; rfl) (some (.int (tagK pc : Nat))) (some (.int (tagN pc : Nat)))
          exact ⟨L, _, _, rfl, rfl, same_new ht _ _ hHL, f1, f2⟩
        · rw [decide_eq_false hc]
          have hg := grow_tag (l := ns) hc
          have hkl : kvs.length < sizeLine := by
            rw [hnk.1]
            omega
          refine iteF ⟨_, rfl, .inl ⟨rfl, _, SqL.of hHL⟩, _, rfl, _, rfl, D, rfl, .inl ⟨_, .inl hHD⟩, _, rfl, _, rfl, D, _, rfl, hHD, _, _, rfl, rfl, kvs, Sum.inl ((tagN pc : Nat) : Int), hHD, rfl, hkl, fun v hv => ?_, fun hn => ?_⟩
          · rw [hnk.2] at hv
            by_cases hm : tagN pc ∈ ns
            · rw [if_pos hm] at hv hg
              obtain rfl : V.int (Fh.placeOf ns (tagN pc) : Nat) = v := Option.some.inj hv
              refine ⟨two, fun t ht => ?_⟩
              obtain ⟨f1, f2⟩ := fin H' kvs t [.int (tagK pc : Nat), .int (Fh.placeOf ns (tagN pc) : Nat)] hS hHD hHL (fun _ _ e => e) (by rw [hg]; exact hnk) (by rw [hg]; omega) ht (by rw [ren_tag hc, hg]) (some (.int (tagK pc : Nat))) (some (.int (tagN pc : Nat)))
              exact ⟨L, _, _, rfl, rfl, same_new ht _ _ hHL, f1, f2⟩
            · rw [if_neg hm] at hv
              cases hv
          · rw [hnk.2] at hn
            by_cases hm : tagN pc ∈ ns
            · rw [if_pos hm] at hn
              cases hn
            · rw [if_neg hm] at hg
              have hpl : Fh.placeOf (ns ++ [tagN pc]) (tagN pc) = ns.length + 1 := by
                unfold Fh.placeOf
                rw [List.idxOf_append, if_neg hm]
                simp
              have hzz : (V.int ((kvs.length : Int) + 1)) = V.int ((ns.length + 1 : Nat) : Int) := by
                rw [hnk.1]
                rfl
              have hput := hnk.put hm
              rw [← hzz] at hput
              refine ⟨two, fun t ht => ?_⟩
              obtain ⟨f1, f2⟩ := fin (upd H' D (.dK (putK kvs (Sum.inl ((tagN pc : Nat) : Int)) (V.int ((kvs.length : Int) + 1))))) _ t [.int (tagK pc : Nat), V.int ((kvs.length : Int) + 1)] (fun b o e => by
                  rw [upd_ne (ne_of_none e hD)]
                  exact hS b o e) upd_same (by rw [upd_ne hLD']; exact hHL) (fun b zs e => by
                  rw [upd_ne (ne_of e hHD (fun z => nomatch z))]
                  exact e) (by rw [hg]; exact hput) (by rw [hg, List.length_append]; show ns.length + 1 ≤ _; omega) ht (by rw [ren_tag hc, hg, hpl, hzz]) (some (.int (tagK pc : Nat))) (some (.int (tagN pc : Nat)))
              exact ⟨L, _, _, rfl, rfl, same_new ht _ _ (by rw [upd_ne hLD']; exact hHL), f1, f2⟩
    · rintro σ H' ⟨o1, o2, ys, ns, kvs, q, rfl, hS, hHD, hHL, hys, hnk, hnl, hql, heq⟩
      rw [List.length_map, hP.length, List.drop_length] at heq
      have heq : q = Fh.formOf r := by
        rw [← heq]
        simp [renF]
      refine ⟨_, rfl, L, _, rfl, .inl ⟨SqL.of hHL, fun t ht => ?_⟩⟩
      have s3 : Same H' (upd H' t (.tup (ys.map V.ref))) := same_new ht
      refine k _ t (hS.trans s3) ⟨ys, upd_same, ?_⟩
      rw [← heq]
      exact hys.mono fun b p e => s3 _ _ e
/-! ### of_earlier_form -/
/-- rows in a list -/
def RwsL (F : Addr → Prop) (H : Hp) (D : Addr) (rs : List Fh.Row) : Prop := F D ∧ ∃ xs : List Addr, H D = some (.lst (xs.map V.ref)) ∧ Paired (fun (x : Addr) (r : Fh.Row) => RowAt F H x r) xs rs
def spEarl : Sp := fun vs H Q _ => ∃ (D : Addr) (rs : List Fh.Row) (F : Addr → Prop), vs = [.ref D] ∧ RwsL F H D rs ∧ rs.length ≤ 300000 ∧ (∀ r ∈ rs, r.length ≤ 262144) ∧ ∀ H' : Hp, Same H H' → Q (.int (dupF [] (rs.map Fh.formOf) : Nat)) H'
theorem scEarl : FnScope ["rows", "forms", "pieces"] ["rows"] (defScope sEarl) := ⟨rfl, rfl, rfl, by decide +kernel, rfl, by decide +kernel, by decide +kernel⟩
theorem dupF_cons {α : Type} [DecidableEq α] (x : α) (m s : List α) : dupF s (x :: m) = (if x ∈ s then 1 else 0) + dupF (x :: s) m := rfl
theorem dupF_mem {α : Type} [DecidableEq α] : ∀ (m s s' : List α), (∀ x, x ∈ s ↔ x ∈ s') → dupF s m = dupF s' m
  | [], s, s', _ => rfl
  | x :: m, s, s', h => by
    rw [dupF_cons, dupF_cons, dupF_mem m (x :: s) (x :: s') fun y => by rw [List.mem_cons, List.mem_cons, h y]]
    simp only [h x]
theorem ok_earl {f : Addr} {fd : FuncData} (F : Fun K "of_earlier_form" "of_earlier_form" sEarl f fd) (TN : TxN mg) (GF : CallOk P w K mg base CX0 2 "form_of" ["pieces"] spForm) : FnOk P w K mg base CX0 3 f fd ["rows"] spEarl := by
  refine F.ok scEarl (fun vs H Q E h => ?_) (fun cdv A outer s H vs Q E hr h => ?_)
  · obtain ⟨D, rs, G, rfl, _⟩ := h
    rfl
  · obtain ⟨D, rs, G, rfl, ⟨_, xs, hx, hP⟩, hlen, hrl, k⟩ := h
    refine ⟨_, pss_cons (ps_set (i := 1) scEarl.nd rfl (Or.inl rfl) pe_kdnew)
      (pss_cons (ps_for PassesOwn.never rfl (pi_list (pv 0)) (pg_name (i := 2) scEarl.nd rfl (Or.inl rfl))
        (pss_one (ps_kdput hr.units (pv 1) (pe_c GF hr (by rfl) pass0 (by exact (pa_cons (pv 2) pa_nil))) pe_bl rfl)))
      (pss_one (ps_ret (pe_op op_sub (pe_callB call_len_seq (by rfl) TN.len PySem.boot_len (pa_cons (pv 0) pa_nil)) (pe_callB call_kdlen (by rfl) TN.len PySem.boot_len (pa_cons (pv 1) pa_nil)))))), ?_⟩
    have h70 : (300000 : Nat) < sizeLine := by decide
    refine fun M hM => ?_
    have hS0 : Same H (upd H M (KD P w M [])) := same_new hM
    refine ⟨_, rfl, D, rfl, ⟨_, SqL.of (hS0 _ _ hx)⟩, for_list (xs := xs.map V.ref) (fun i σ H' => ∃ (o : Option V) (zs : List (Fh.Row × Addr)), σ = [some (.ref D), some (.ref M), o] ∧ Same H H' ∧ H' M = some (KD P w M zs) ∧ KdAt H' zs ∧ zs.length ≤ i ∧ dupF [] (rs.map Fh.formOf) + zs.length = i + dupF (zs.map (·.1)) ((rs.drop i).map Fh.formOf))
      ⟨none, [], rfl, hS0, upd_same, fun x hx => absurd hx (by simp), Nat.zero_le _, by simp⟩ ?_ ?_ ?_⟩
    · rintro i σ H' _ ⟨o, zs, rfl, hS, _⟩
      exact SqL.of (hS _ _ hx)
    · rintro i v σ H' hv ⟨o, zs, rfl, hS, hHM, hKd, hzl, heq⟩
      rw [List.getElem?_map] at hv
      cases hy : xs[i]? with
      | none => rw [hy] at hv; cases hv
      | some y =>
        rw [hy] at hv
        obtain rfl : V.ref y = v := Option.some.inj hv
        obtain ⟨r, hr, hY⟩ := paired_get hP hy
        have hi : i < rs.length := (List.getElem?_eq_some_iff.mp hr).1
        have hdr : rs.drop i = r :: rs.drop (i + 1) := by
          rw [List.drop_eq_getElem_cons hi, (List.getElem?_eq_some_iff.mp hr).2]
        have hY' : RowAt G H' y r := hY.keep fun b o _ e => hS b o e
        refine ⟨_, rfl, _, rfl, y, r, G, rfl, hY', hrl r (List.mem_of_getElem? hr), fun H2 t s2 hF => ?_⟩
        refine ⟨M, t, zs, Fh.formOf r, rfl, rfl, rfl, s2 _ _ hHM, hKd.keep fun b ys e => s2 _ _ e, hF, by omega, ?_⟩
        have hT : ∀ (b : Addr) (ys : List V), H2 b = some (.tup ys) → upd H2 M (KD P w M (kdPut zs (Fh.formOf r) t)) b = some (.tup ys) := fun b ys e => by
          rw [upd_ne (ne_of e (s2 _ _ hHM) (fun z => nomatch z))]
          exact e
        refine ⟨_, kdPut zs (Fh.formOf r) t, rfl, fun b o e => ?_, upd_same, fun x hx => ?_, ?_, ?_⟩
        · rw [upd_ne (ne_of_none e hM)]
          exact s2 _ _ (hS b o e)
        · unfold kdPut at hx
          split at hx
          · exact ((hKd.keep fun b ys e => s2 _ _ e) x hx).keep hT
          · rcases List.mem_append.mp hx with q | q
            · exact ((hKd.keep fun b ys e => s2 _ _ e) x q).keep hT
            · obtain rfl : x = (Fh.formOf r, t) := by simpa using q
              exact hF.keep hT
        · rw [kdPut_len]
          split <;> omega
        · rw [hdr, List.map_cons] at heq
          rw [dupF_cons] at heq
          have e : dupF ((kdPut zs (Fh.formOf r) t).map (·.1)) ((rs.drop (i + 1)).map Fh.formOf) = dupF (Fh.formOf r :: zs.map (·.1)) ((rs.drop (i + 1)).map Fh.formOf) := by
            refine dupF_mem _ _ _ fun x => ?_
            unfold kdPut
            by_cases q : Fh.formOf r ∈ zs.map (·.1)
            · rw [if_pos q, List.mem_cons]
              exact ⟨.inr, fun z => z.elim (fun z => z ▸ q) id⟩
            · rw [if_neg q, List.map_append, List.mem_append, List.mem_cons]
              show x ∈ zs.map (·.1) ∨ x ∈ [Fh.formOf r] ↔ _
              rw [List.mem_singleton]
              exact ⟨fun z => z.symm, fun z => z.symm⟩
          rw [e, kdPut_len]
          split at heq <;> rename_i q
          · rw [if_pos q]
            omega
          · rw [if_neg q]
            omega
    · rintro σ H' ⟨o, zs, rfl, hS, hHM, hKd, hzl, heq⟩
      rw [List.length_map, hP.length, List.drop_length] at heq
      have heq : dupF [] (rs.map Fh.formOf) + zs.length = rs.length + 0 := heq
      refine ⟨_, rfl, D, _, rfl, .inl (SqL.of (hS _ _ hx)), _, rfl, M, zs, rfl, hHM, hKd, _, _, rfl, rfl, ?_⟩
      have e : ((xs.map V.ref).length : Int) - ((zs.length : Nat) : Int) = ((dupF [] (rs.map Fh.formOf) : Nat) : Int) := by
        rw [List.length_map, hP.length]
        omega
      show Q (V.int (((xs.map V.ref).length : Int) - ((zs.length : Nat) : Int))) H'
      rw [e]
      exact k H' hS
end
end Sg

/-! SgSig -/
set_option Elab.async false
set_option linter.all false
set_option maxRecDepth 100000
set_option maxHeartbeats 4000000
namespace Sg
open PySem PySem.Spec PyProof.Rows L2
def signRs : List (Nat × Nat) := [(33, 47), (58, 64), (91, 96), (123, 126), (161, 191), (215, 215), (247, 247), (8208, 8303), (12288, 12351)]
theorem sign_is (c : Nat) : Fh.isSign c = signRs.any fun x => decide (x.1 ≤ c) && decide (c ≤ x.2) := rfl
/-- the written tuple of tuples -/
structure TxSg (K : PySem.W.Frag) (mg : Str → Option Value) : Prop where
  sg : ∃ (a : Addr) (ts : List Addr), mg "SIGNS" = some (.ref a) ∧ (∀ H : Hp, SqT K H a (ts.map V.ref)) ∧ Paired (fun (t : Addr) (z : Nat × Nat) => ∀ H : Hp, SqT K H t [.int (z.1 : Nat), .int (z.2 : Nat)]) ts signRs
section
variable {P : Program} {w : World} {K : PySem.W.Frag} {mg : Str → Option Value} {base : Heap}
/-! ### is_sign -/
def spSign : Sp := fun vs H Q _ => ∃ c : Nat, vs = [.int (c : Nat)] ∧ ∀ H' : Hp, Same H H' → Q (.bl (Fh.isSign c)) H'
theorem scSign : FnScope ["number", "low", "high"] ["number"] (defScope sSign) := ⟨rfl, rfl, rfl, by decide +kernel, rfl, by decide +kernel, by decide +kernel⟩
theorem ok_sign {f : Addr} {fd : FuncData} (F : Fun K "is_sign" "is_sign" sSign f fd) (TN : TxN mg) (TS : TxSg K mg) : FnOk P w K mg base CX0 2 f fd ["number"] spSign := by
  refine F.ok scSign (fun vs H Q E h => ?_) (fun cdv A outer s H vs Q E hr h => ?_)
  · obtain ⟨c, rfl, _⟩ := h
    rfl
  · obtain ⟨c, rfl, k⟩ := h
    obtain ⟨sa, ts, hsa, hsq, hP⟩ := TS.sg
    refine ⟨_, pss_one (ps_ret (pe_callB (cr_any rfl) (by rfl) TN.any PyProof.Rows.boot_any (pa_cons (pe_lc (own := [("low", 1), ("high", 2)]) (g := gTup K 2 (gCons (gName 1) (gCons (gName 2) gNil))) (tt := tYes) (te := tChain (rI0 fun i j => .bl (decide (i ≤ j))) (rI0 fun i j => .bl (decide (i ≤ j))) (tVar 1) (tVar 0) (tVar 2)) rfl scSign.nd (pi_tup (pe_glob (v := .ref sa) (by rfl) hsa rfl)) (blkOk_by (N := ["number", "low", "high"]) (sc := defScope sSign) (by decide +kernel))
          (fun _ _ _ _ _ => pg_tup rfl (pgs_cons (pg_name (i := 1) scSign.nd rfl (Or.inl rfl)) (pgs_cons (pg_name (i := 2) scSign.nd rfl (Or.inl rfl)) pgs_nil))) (fun _ _ _ _ _ => pts_nil) (fun _ _ _ _ _ => by exact (pe_chain op_le op_le (pv 1) (pv 0) (pv 2)))) pa_nil))), ?_⟩
    have h9k : (9000 : Nat) < sizeLine := by decide
    have hlen : signRs.length = 9 := rfl
    refine ⟨sa, rfl, ⟨_, hsq _⟩, fun D hD => ?_⟩
    refine lc_tup (K := K) (a := sa) (xs := ts.map V.ref) (fun i H' => Same H H' ∧ H' D = some (.lst (((signRs.take i).map fun x => decide (x.1 ≤ c) && decide (c ≤ x.2)).map V.bl)))
      ⟨same_new hD, upd_same⟩ (fun i H' _ hp => hsq _) (fun i v H' hv hp => ?_) (fun H' hp => ?_)
    · obtain ⟨s1, hl⟩ := hp
      rw [List.getElem?_map] at hv
      cases hz : ts[i]? with
      | none => rw [hz] at hv; cases hv
      | some z =>
        rw [hz] at hv
        obtain rfl : V.ref z = v := Option.some.inj hv
        obtain ⟨x, hx, hZ⟩ := paired_get hP hz
        have hi : i < signRs.length := (List.getElem?_eq_some_iff.mp hx).1
        have put : ∀ b : Bool, (decide (x.1 ≤ c) && decide (c ≤ x.2)) = b → (∃ acc, H' D = some (HO.lst acc) ∧ acc.length < sizeLine ∧ (Same H (upd H' D (.lst (acc ++ [V.bl b]))) ∧ upd H' D (.lst (acc ++ [V.bl b])) D = some (.lst (((signRs.take (i + 1)).map fun x => decide (x.1 ≤ c) && decide (c ≤ x.2)).map V.bl)))) := by
          intro b hb
          refine ⟨_, hl, ?_, same_newR s1 hD, ?_⟩
          · rw [List.length_map, List.length_map, List.length_take]
            omega
          · rw [upd_same, List.take_add_one, hx, List.map_append, List.map_append, ← hb]
            rfl
        refine ⟨z, _, rfl, hZ _, rfl, _, _, rfl, _, _, rfl, rfl, rfl, iteT (B := Same H H' ∧ H' D = some (.lst (((signRs.take (i + 1)).map fun x => decide (x.1 ≤ c) && decide (c ≤ x.2)).map V.bl))) ?_⟩
        refine ⟨_, rfl, _, rfl, _, _, rfl, rfl, _, rfl, tst (fun q => ⟨_, rfl, _, _, rfl, rfl, ?_⟩) (fun q => ?_)⟩
        · have q1 : x.1 ≤ c := by omega
          dsimp only
          rw [show decide (((c : Nat) : Int) ≤ (x.2 : Nat)) = decide (c ≤ x.2) from dec_eq (by omega)]
          exact put _ (by rw [decide_eq_true q1, Bool.true_and])
        · have q1 : ¬ x.1 ≤ c := by omega
          exact put _ (by rw [decide_eq_false q1, Bool.false_and])
    · obtain ⟨s1, hl⟩ := hp
      rw [List.length_map, hP.length, List.take_length] at hl
      refine ⟨D, _, rfl, SqL.of hl, ?_⟩
      have e : ((signRs.map fun x => decide (x.1 ≤ c) && decide (c ≤ x.2)).any id) = Fh.isSign c := by
        rw [sign_is, List.any_map]
        rfl
      rw [e]
      exact k H' s1
/-! ### words_in -/
/-- whether a piece goes on with a word -/
def goesOn (p : Fh.Piece) : Bool := decide (tagK p = 0) && Fh.isWordChar (tagN p)
theorem wcS_cons (b : Bool) (p : Fh.Piece) (r : Fh.Row) : wcS b (p :: r) = (if (goesOn p && !b) = true then 1 else 0) + wcS (goesOn p) r := by
  cases p with
  | char c =>
    show (if Fh.isWordChar c = true then (if b = true then 0 else 1) + wcS true r else wcS false r) = _
    have e : goesOn (.char c) = Fh.isWordChar c := by
      show (decide ((0 : Nat) = 0) && Fh.isWordChar c) = _
      simp
    rw [e]
    cases Fh.isWordChar c <;> cases b <;> simp
  | open_ n =>
    have e : goesOn (.open_ n) = false := rfl
    rw [e]
    show wcS false r = _
    simp
  | close n =>
    have e : goesOn (.close n) = false := rfl
    rw [e]
    show wcS false r = _
    simp
  | alone n =>
    have e : goesOn (.alone n) = false := rfl
    rw [e]
    show wcS false r = _
    simp
theorem wcS_le : ∀ (r : Fh.Row) (b : Bool), wcS b r ≤ r.length
  | [], b => Nat.le_refl _
  | p :: r, b => by
    rw [wcS_cons, List.length_cons]
    have := wcS_le r (goesOn p)
    split <;> omega
def spWords : Sp := fun vs H Q _ => ∃ (l : Addr) (r : Fh.Row) (F : Addr → Prop), vs = [.ref l] ∧ RowAt F H l r ∧ r.length ≤ 262144 ∧ ∀ H' : Hp, Same H H' → Q (.int (wcS false r : Nat)) H'
theorem scWords : FnScope ["pieces", "words", "within", "kind", "number", "goes_on"] ["pieces"] (defScope sWords) := ⟨rfl, rfl, rfl, by decide +kernel, rfl, by decide +kernel, by decide +kernel⟩
theorem ok_words {f : Addr} {fd : FuncData} (F : Fun K "words_in" "words_in" sWords f fd) (TW : TxW mg) (TN : TxN mg) (GS : CallOk P w K mg base CX0 2 "is_sign" ["number"] spSign) : FnOk P w K mg base CX0 3 f fd ["pieces"] spWords := by
  refine F.ok scWords (fun vs H Q E h => ?_) (fun cdv A outer s H vs Q E hr h => ?_)
  · obtain ⟨l, r, G, rfl, _⟩ := h
    rfl
  · obtain ⟨l, r, G, rfl, ⟨_, xs, hx, hP⟩, hlen, k⟩ := h
    refine ⟨_, pss_cons (ps_set (i := 1) scWords.nd rfl (Or.inl rfl) pe_int)
      (pss_cons (ps_set (i := 2) scWords.nd rfl (Or.inl rfl) pe_bl)
      (pss_cons (ps_for PassesOwn.never rfl (pi_list (pv 0)) (pg_tup rfl (pgs_cons (pg_name (i := 3) scWords.nd rfl (Or.inl rfl)) (pgs_cons (pg_name (i := 4) scWords.nd rfl (Or.inl rfl)) pgs_nil)))
        (pss_cons (ps_set (i := 5) scWords.nd rfl (Or.inl rfl) (pe_and (pe_cmpR op_eq (pv 3) (pe_k TW.char (by rfl)) (nomark _)) (pe_and (pe_cmpR op_ne (pv 4) (pe_k TN.blank (by rfl)) (nomark _)) (pe_one (pe_not (pe_c GS hr (by rfl) pass0 (by exact (pa_cons (pv 4) pa_nil))))))))
        (pss_cons (ps_if (PW.pt (pw_and (pt_val (pv 5)) (pw_and1 (pt_not (pt_val (pv 2)))))) (pss_one (ps_aug (i := 1) scWords.nd rfl (Or.inl rfl) pe_int ip_add)) pss_nil)
        (pss_one (ps_set (i := 2) scWords.nd rfl (Or.inl rfl) (pv 5))))))
      (pss_one (ps_ret (pv 1))))), ?_⟩
    refine ⟨_, rfl, l, rfl, ⟨_, SqL.of hx⟩, for_list (xs := xs.map V.ref) (fun i σ H' => ∃ (n : Nat) (b : Bool) (o1 o2 o3 : Option V), σ = [some (.ref l), some (.int (n : Nat)), some (.bl b), o1, o2, o3] ∧ Same H H' ∧ n + wcS b (r.drop i) = wcS false r)
      ⟨0, false, none, none, none, rfl, Same.refl _, by rw [List.drop_zero, Nat.zero_add]⟩ ?_ ?_ ?_⟩
    · rintro i σ H' _ ⟨n, b, o1, o2, o3, rfl, hS, _⟩
      exact SqL.of (hS _ _ hx)
    · rintro i v σ H' hv ⟨n, b, o1, o2, o3, rfl, hS, hn⟩
      rw [List.getElem?_map] at hv
      cases hy : xs[i]? with
      | none => rw [hy] at hv; cases hv
      | some y =>
        rw [hy] at hv
        obtain rfl : V.ref y = v := Option.some.inj hv
        obtain ⟨pc, hpc, _, hY⟩ := paired_get hP hy
        have hi : i < r.length := (List.getElem?_eq_some_iff.mp hpc).1
        have hdr : r.drop i = pc :: r.drop (i + 1) := by
          rw [List.drop_eq_getElem_cons hi, (List.getElem?_eq_some_iff.mp hpc).2]
        rw [hdr, wcS_cons] at hn
        refine ⟨y, _, rfl, .inl (.inl (hS _ _ hY)), rfl, _, _, rfl, _, _, rfl, rfl, ?_⟩
        -- what is done with goes_on
        have rest : ∀ (g : Bool) (H2 : Hp), goesOn pc = g → Same H H2 →
            tSeq (tIfS (tAnd (tB (tVar 5)) (tNot (tB (tVar 2)))) (tAug 1 (tC (.int 1)) (ipI fun i j => i + j)) tNext) (tAsg (tVar 5) (gName 2))
              { nx := fun σ H' => ∃ (n : Nat) (b : Bool) (o1 o2 o3 : Option V), σ = [some (.ref l), some (.int (n : Nat)), some (.bl b), o1, o2, o3] ∧ Same H H' ∧ n + wcS b (r.drop (i + 1)) = wcS false r, rt := Q }
              [some (.ref l), some (.int (n : Nat)), some (.bl b), some (.int (tagK pc : Nat)), some (.int (tagN pc : Nat)), some (.bl g)] H2 := by
          intro g H2 hg s2
          rw [hg] at hn
          refine ⟨_, rfl, g, rfl, ?_⟩
          cases g with
          | true =>
            refine iteT ⟨_, rfl, b, rfl, ?_⟩
            cases b with
            | true => exact iteF ⟨_, rfl, n, true, _, _, _, rfl, s2, by simpa using hn⟩
            | false =>
              refine iteT ⟨_, rfl, _, _, rfl, rfl, _, rfl, n + 1, true, _, _, _, rfl, s2, ?_⟩
              have hn : n + (1 + wcS true (r.drop (i + 1))) = wcS false r := hn
              omega
          | false => exact iteF ⟨_, rfl, n, false, _, _, _, rfl, s2, by simpa using hn⟩
        have e1 : decide (V.int (tagK pc : Nat) = V.int 0) = decide (tagK pc = 0) := decI (b := 0)
        have e2 : decide (V.int (tagN pc : Nat) = V.int 32) = decide (tagN pc = 32) := decI (b := 32)
        refine ⟨_, rfl, rfl, _, rfl, ?_⟩
        show if decide (V.int (tagK pc : Nat) = V.int 0) = true then _ else _
        rw [e1]
        by_cases q : tagK pc = 0
        · rw [decide_eq_true q]
          refine iteT ⟨_, rfl, rfl, _, rfl, ?_⟩
          show if (!decide (V.int (tagN pc : Nat) = V.int 32)) = true then _ else _
          rw [e2]
          by_cases q2 : tagN pc = 32
          · rw [decide_eq_true q2]
            refine iteF (rest false _ ?_ hS)
            unfold goesOn Fh.isWordChar
            rw [q2]
            simp [Fh.BLANK]
          · rw [decide_eq_false q2]
            refine iteT ⟨_, rfl, tagN pc, rfl, fun H2 s2 => ⟨_, rfl, rest _ H2 ?_ (hS.trans s2)⟩⟩
            unfold goesOn Fh.isWordChar
            rw [decide_eq_true q, Bool.true_and, show (tagN pc != Fh.BLANK) = true from by simpa [Fh.BLANK] using q2, Bool.true_and]
        · rw [decide_eq_false q]
          refine iteF (rest false _ ?_ hS)
          unfold goesOn
          rw [decide_eq_false q, Bool.false_and]
    · rintro σ H' ⟨n, b, o1, o2, o3, rfl, hS, hn⟩
      rw [List.length_map, hP.length, List.drop_length] at hn
      refine ⟨_, rfl, ?_⟩
      have e : n = wcS false r := hn
      rw [e]
      exact k H' hS
end
end Sg

/-! SgTopD -/
set_option Elab.async false
set_option linter.all false
set_option maxRecDepth 100000
set_option maxHeartbeats 4000000
namespace Sg
open PySem PySem.Spec PyProof.Rows L2 LamX
/-- what segs answers, of rules and a document -/
def segsF : Fh.Rules → Fh.Document → FhSegs.Answer := fun R x => let l := (Fh.segments R x).map fun (y : Nat × Nat × Fh.Row) => y.2.2
    ⟨0, [l.length, (l.map Fh.wordsIn).sum, FhSegs.repeated l, (l.map List.length).sum], none⟩
theorem numb_rows (R : Fh.Rules) (x : Fh.Document) : (numbFrom 0 (x.map (lnPc R))).map (fun z => z.2.2) = (Fh.segments R x).map fun (y : Nat × Nat × Fh.Row) => y.2.2 := by
  have hlen : (numbFrom 0 (x.map (lnPc R))).length = (Fh.segments R x).length := numb_len R x 0
  refine List.ext_getElem? fun k => ?_
  rw [List.getElem?_map, List.getElem?_map]
  cases hz : (Fh.segments R x)[k]? with
  | none =>
    rw [List.getElem?_eq_none_iff] at hz
    rw [List.getElem?_eq_none_iff.mpr (by omega)]
    rfl
  | some z =>
    obtain ⟨i, r, u, _, _, h3, h4, _⟩ := numb_at R x 0 k z hz
    rw [h3]
    show some (cutRow r u.1 u.2) = some z.2.2
    rw [h4]
theorem numb_small (R : Fh.Rules) (x : Fh.Document) : ∀ s ∈ (numbFrom 0 (x.map (lnPc R))).map (fun z => z.2.2), s.length ≤ (Fh.docText x).length := by
  intro s hs
  rw [numb_rows] at hs
  obtain ⟨z, hz, e⟩ := List.mem_map.mp hs
  obtain ⟨k, hk⟩ := List.mem_iff_getElem?.mp hz
  obtain ⟨i, r, u, _, h2, _, h4, _⟩ := numb_at R x 0 k z hk
  have h := numb_text R x i r h2
  have h5 := row_le_text r
  rw [← e, h4]
  unfold cutRow
  rw [List.length_drop, List.length_take]
  omega
theorem sum_nat {α : Type} (f : α → Nat) : ∀ l : List α, (l.map fun r => ((f r : Nat) : Int)).sum = (((l.map f).sum : Nat) : Int)
  | [] => rfl
  | r :: l => by
    rw [List.map_cons, List.map_cons, List.sum_cons, List.sum_cons, sum_nat f l]
    omega
section
variable {P : Program} {w : World} {K : PySem.W.Frag} {mg : Str → Option Value} {base : Heap} {CE CG CT CB CQ : Addr} {T : List (Addr × Str)}
theorem RwsL.keep {F : Addr → Prop} {H H' : Hp} {D : Addr} {rs : List Fh.Row} (h : RwsL F H D rs) (g : ∀ b o, F b → H b = some o → H' b = some o) : RwsL F H' D rs := by
  obtain ⟨h1, xs, h2, h3⟩ := h
  exact ⟨h1, xs, g _ _ h1 h2, h3.mono fun _ _ z => z.keep g⟩
theorem RwsL.same {F : Addr → Prop} {H H' : Hp} {D : Addr} {rs : List Fh.Row} (h : RwsL F H D rs) (s : Same H H') : RwsL F H' D rs := h.keep fun b o _ e => s b o e
theorem go_name {i : Nat} {v : V} {σ : L2.St} {H : Hp} {n : L2.St → Hp → Prop} (h : n (σ.set i (some v)) H) : gName i v σ H n := h
theorem go_seq {te : TE} {u : TS} {i : Nat} {D : Ends} {σ : L2.St} {H : Hp} (h : te σ H fun x H1 => u D (σ.set i (some x)) H1) : tSeq (tAsg te (gName i)) u D σ H := h
theorem go_cb {r : List V → Hp → VK → Prop} {te : TE} {σ : L2.St} {H : Hp} {Q : VK} (h : te σ H fun x H1 => r [x] H1 Q) : tCB r (tCons te tNil) σ H Q := h
theorem go_one {te : TE} {σ : L2.St} {H : Hp} {Q : List V → Hp → Prop} (h : te σ H fun x H1 => Q [x] H1) : tCons te tNil σ H Q := h
/-- [f(pieces) for pieces in found], in the slot 7 of 8, a number each -/
theorem lc_rows {σ : L2.St} {H : Hp} {D : Addr} {rs : List Fh.Row} {te : TE} {f : Fh.Row → Nat} {Q : VK} (hR : RwsL (fun _ => True) H D rs) (hlen : rs.length ≤ 300000) (h2 : σ[2]? = some (some (.ref D))) (h8 : σ.length = 8)
    (hte : ∀ (l : Addr) (r : Fh.Row) (H' : Hp) (Q' : VK), r ∈ rs → RowAt (fun _ => True) H' l r → (∀ H2 : Hp, Same H' H2 → Q' (.int (f r : Nat)) H2) → te ((wipe σ [7]).set 7 (some (.ref l))) H' Q')
    (k : ∀ (H' : Hp) (L : Addr), Same H H' → H' L = some (.lst ((rs.map fun r => ((f r : Nat) : Int)).map V.int)) → Q (.ref L) H') :
    tLc (iList K (tVar 2)) (gName 7) tYes te ([(("pieces" : Str), 7)].map (·.2)) σ H Q := by
  obtain ⟨_, xs, hx, hP⟩ := id hR
  have h9k : (300000 : Nat) < sizeLine := by decide
  refine ⟨_, h2, D, rfl, ⟨_, SqL.of hx⟩, fun L hL => ?_⟩
  refine lc_list (K := K) (a := D) (xs := xs.map V.ref) (fun i H' => Same H H' ∧ H' L = some (.lst (((rs.take i).map fun r => ((f r : Nat) : Int)).map V.int)))
    ⟨same_new hL, upd_same⟩ (fun i H' _ hp => SqL.of (hp.1 _ _ hx)) (fun i v H' hv hp => ?_) (fun H' hp => ?_)
  · obtain ⟨s1, hl⟩ := hp
    rw [List.getElem?_map] at hv
    cases hz : xs[i]? with
    | none => rw [hz] at hv; cases hv
    | some z =>
      rw [hz] at hv
      obtain rfl : V.ref z = v := Option.some.inj hv
      obtain ⟨r, hr, hZ⟩ := paired_get hP hz
      have hi : i < rs.length := (List.getElem?_eq_some_iff.mp hr).1
      refine ⟨?_, iteT (B := Same H H' ∧ H' L = some (.lst (((rs.take (i + 1)).map fun r => ((f r : Nat) : Int)).map V.int))) ?_⟩
      · show wipe ((wipe σ [7]).set 7 (some (.ref z))) [7] = wipe σ [7]
        match σ, h8 with
        | [_, _, _, _, _, _, _, _], _ => rfl
      · refine hte z r H' _ (List.mem_of_getElem? hr) (hZ.keep fun b o _ e => s1 b o e) fun H2 s2 => ?_
        refine ⟨_, s2 _ _ hl, ?_, same_newR (s1.trans s2) hL, ?_⟩
        · rw [List.length_map, List.length_map, List.length_take]
          omega
        · rw [upd_same, List.take_add_one, hr, List.map_append, List.map_append]
          rfl
  · obtain ⟨s1, hl⟩ := hp
    rw [List.length_map, hP.length, List.take_length] at hl
    exact k H' L s1 hl
def spTopD (T : List (Addr × Str)) (K : PySem.W.Frag) : Sp := fun vs H Q _ => ∃ (a b : Addr) (t d : Fh.Bytes), vs = [.ref a, .ref b] ∧ SqL K H a (bv t) ∧ SqL K H b (bv d) ∧ Tabs T H ∧ ∀ (H' : Hp) (p : Addr), H' p = some (.lst ((docAns t d segsF).map V.int)) → Q (.ref p) H'
theorem scTopD : FnScope ["t", "d", "found", "refusal", "words", "line", "segment", "pieces"] ["t", "d"] (defScope sTopD) := ⟨rfl, rfl, rfl, by decide +kernel, rfl, by decide +kernel, by decide +kernel⟩
theorem ok_topD {f : Addr} {fd : FuncData} (F : Fun K "segs" "segs" sTopD f fd) (TQ : TxPt K CQ) (TN : TxN mg) (sn : mg "sum" = none) (gE : mg "Refusal" = some (.ref CE)) (eT : ErrK K CE CT) (eB : ErrK K CE CB) (eG : ErrK K CE CG) (GD : CallOk P w K mg base (L2.CX P w) 15 "document_segments" ["t", "d"] (spDoS T CG CT CB CQ K))
    (GW : CallOk P w K mg base CX0 3 "words_in" ["pieces"] spWords) (GE : CallOk P w K mg base CX0 3 "of_earlier_form" ["rows"] spEarl) :
    FnOk P w K mg base CX0 16 f fd ["t", "d"] (spTopD T K) := by
  refine F.ok scTopD (fun vs H Q E h => ?_) (fun cdv A outer s H vs Q E hr h => ?_)
  · obtain ⟨a, b, t, d, rfl, _⟩ := h
    rfl
  · obtain ⟨a, b, t, d, rfl, hS, hT, tabs, k⟩ := h
    have hr3 : Room 3 (A.deeper (envOfC (Str.ofString "segs") (defScope sTopD) s.heap.objs.size f cdv)) := hr.mono (by decide)
    refine ⟨_, pss_cons (ps_try_mix (tb := fun W => tAsg (tLc (iList K (tCallS (spDoS T CG CT CB CQ K) (WE W) (tCons (tVar 0) (tCons (tVar 1) tNil)))) (gTup K 2 (gCons (gName 5) (gCons (gName 6) gNil))) tYes (tFld K (tVar 6) "pieces") ([(("line" : Str), 5), (("segment" : Str), 6)].map (·.2))) (gName 2)) (Wout := fun _ _ _ _ => False)
          (l := [(.ref CE, some 3, sayNo K 3)])
          rfl rfl L2.takes0 (fun W pn xe tk _ => pss_one (ps_setLc (i := 2) (own := [("line", 5), ("segment", 6)]) (g := gTup K 2 (gCons (gName 5) (gCons (gName 6) gNil))) (tt := tYes) (te := tFld K (tVar 6) "pieces") (by rfl) scTopD.nd rfl rfl (sw_true rfl rfl rfl (by decide +kernel)) (pi_list (by exact (pe_cS GD hr rfl (fun σ => passAt tk σ) (by exact (pa_cons (pv 0) (pa_cons (pv 1) pa_nil)))))) (blkOk_by (N := ["t", "d", "found", "refusal", "words", "line", "segment", "pieces"]) (sc := defScope sTopD) (by decide +kernel))
            (fun _ _ _ _ _ => pg_tup rfl (pgs_cons (pg_name (i := 5) scTopD.nd rfl (Or.inl rfl)) (pgs_cons (pg_name (i := 6) scTopD.nd rfl (Or.inl rfl)) pgs_nil))) (fun _ _ _ _ _ => pts_nil) (fun _ _ _ _ _ => by exact (pe_fld (pv 6) rfl))))
          (.cons ⟨rfl, by decide, Or.inl gE⟩ ⟨scTopD.nd, rfl, rfl⟩ (fun a oe cls d pn hz hf => pss_one (ps_ret (pe_lst (pa_cons (pe_xfA hz hf (pv 3)) pa_nil)))) .nil))
      (pss_cons (ps_set (i := 4) scTopD.nd rfl (Or.inl rfl) (pe_callB (cr_sum rfl) (by rfl) sn PyProof.Rows.boot_sum (pa_cons (pe_lc (own := [("pieces", 7)]) (g := gName 7) (tt := tYes) (te := tCall spWords [] E0 (tCons (tVar 7) tNil)) rfl scTopD.nd (pi_list (pv 2)) (blkOk_by (N := ["t", "d", "found", "refusal", "words", "line", "segment", "pieces"]) (sc := defScope sTopD) (by decide +kernel))
            (fun _ _ _ _ _ => pg_name (i := 7) scTopD.nd rfl (Or.inl rfl)) (fun _ _ _ _ _ => pts_nil) (fun _ _ _ _ _ => by exact (pe_c GW hr3 (by rfl) pass0 (by exact (pa_cons (pv 7) pa_nil))))) pa_nil)))
      (pss_one (ps_ret (pe_lst (pa_cons pe_int (pa_cons (pe_callB call_len_seq (by rfl) TN.len PySem.boot_len (pa_cons (pv 2) pa_nil)) (pa_cons (pv 4) (pa_cons (pe_c GE hr3 (by rfl) pass0 (by exact (pa_cons (pv 2) pa_nil))) (pa_cons
        (pe_callB (cr_sum rfl) (by rfl) sn PyProof.Rows.boot_sum (pa_cons (pe_lc (own := [("pieces", 7)]) (g := gName 7) (tt := tYes) (te := tCB (rLenQ K) (tCons (tVar 7) tNil)) rfl scTopD.nd (pi_list (pv 2)) (blkOk_by (N := ["t", "d", "found", "refusal", "words", "line", "segment", "pieces"]) (sc := defScope sTopD) (by decide +kernel))
            (fun _ _ _ _ _ => pg_name (i := 7) scTopD.nd rfl (Or.inl rfl)) (fun _ _ _ _ _ => pts_nil) (fun _ _ _ _ _ => by exact (pe_callB call_len_seq (by rfl) TN.len PySem.boot_len (pa_cons (pv 7) pa_nil)))) pa_nil)) pa_nil))))))))), ?_⟩
    have h9k : (300000 : Nat) < sizeLine := by decide
    have hans := docAns_is t d segsF
    have no : ∀ m : Int, docAns t d segsF = [m] → ∀ (H' : Hp) (p : Addr), H' p = none → Q (.ref p) (upd H' p (.lst [V.int m])) := fun m e H' p hp => k _ p (by rw [e]; exact upd_same)
    refine ⟨_, rfl, _, rfl, a, b, t, d, rfl, hS, hT, tabs, ?_⟩
    cases hres : docRes t d with
    | big =>
      rw [hres] at hans
      exact Told.gone (told_top (fun _ => rfl) (no (-6) hans)) eT
    | kind j m =>
      rw [hres] at hans
      exact Told.kind (told_top (fun _ => rfl) (no (-5) hans)) eG
    | small =>
      rw [hres] at hans
      exact Told.gone (told_top (fun _ => rfl) (no (-6) hans)) eB
    | good R x =>
      rw [hres] at hans
      replace hans : docAns t d segsF = FbNeutral.numbers (segsF R x) := hans
      intro H1 N hN htx hdl
      obtain ⟨_, ts, hl, hts⟩ := hN
      obtain ⟨nb, hnb⟩ : ∃ nb, nb = numbFrom 0 (x.map (lnPc R)) := ⟨_, rfl⟩
      obtain ⟨rs, hrs⟩ : ∃ rs : List Fh.Row, rs = nb.map (fun z => z.2.2) := ⟨_, rfl⟩
      have hrows : rs = (Fh.segments R x).map fun (y : Nat × Nat × Fh.Row) => y.2.2 := by rw [hrs, hnb, numb_rows]
      have hnlen : nb.length ≤ 262144 := by
        rw [hnb]
        have := numb_doc R x 0
        rw [htx] at this
        omega
      have hrlen : rs.length ≤ 300000 := by
        rw [hrs, List.length_map]
        omega
      have hsmall : ∀ r ∈ rs, r.length ≤ 262144 := fun r hr => by
        have := numb_small R x r (by rw [← hnb, ← hrs]; exact hr)
        rw [htx] at this
        omega
      have hfin : docAns t d segsF = [0, ((rs.length : Nat) : Int), (((rs.map (wcS false)).sum : Nat) : Int), ((dupF [] (rs.map Fh.formOf) : Nat) : Int), (((rs.map List.length).sum : Nat) : Int)] := by
        have e1 : rs.map Fh.wordsIn = rs.map (wcS false) := List.map_congr_left fun r _ => words_is r
        rw [hans, ← e1, ← repeated_is, hrows]
        rfl
      rw [← hnb] at hts
      refine ⟨N, rfl, ⟨_, SqL.of hl⟩, fun D hD => ?_⟩
      refine lc_list (K := K) (a := N) (xs := ts.map V.ref) (fun i H' => Same H1 H' ∧ ∃ us : List Addr, H' D = some (.lst (us.map V.ref)) ∧ Paired (fun (u : Addr) (z : Nat × Pc) => RowAt (fun c => True ∧ c ≠ D) H' u z.2.2) us (nb.take i))
        ⟨same_new hD, [], upd_same, .nil⟩ (fun i H' _ hp => SqL.of (hp.1 _ _ hl)) (fun i v H' hv hp => ?_) (fun H2 hp => ?_)
      · obtain ⟨s1, us, hus, hup⟩ := hp
        rw [List.getElem?_map] at hv
        cases hz : ts[i]? with
        | none => rw [hz] at hv; cases hv
        | some z =>
          rw [hz] at hv
          obtain rfl : V.ref z = v := Option.some.inj hv
          obtain ⟨y, hy, _, u, hZ, hPt⟩ := paired_get hts hz
          have hi : i < nb.length := (List.getElem?_eq_some_iff.mp hy).1
          obtain ⟨_, dx, lp, tx, hu, hrow, _⟩ := (hPt.off hD).same s1
          refine ⟨z, _, rfl, .inl (.inl (s1 _ _ hZ)), rfl, _, _, rfl, _, _, rfl, rfl, rfl, iteT (B := Same H1 H' ∧ ∃ us : List Addr, H' D = some (.lst (us.map V.ref)) ∧ Paired (fun (u : Addr) (z : Nat × Pc) => RowAt (fun c => True ∧ c ≠ D) H' u z.2.2) us (nb.take (i + 1))) ?_⟩
          refine ⟨_, rfl, u, CQ, dx, _, _, rfl, hu, TQ.cl, TQ.n3, ptF_3 _ _ _ _, _, hus, ?_, same_newR s1 hD, us ++ [lp], ?_, ?_⟩
          · rw [List.length_map, hup.length, List.length_take]
            omega
          · rw [upd_same, List.map_append]
            rfl
          · rw [List.take_add_one, hy]
            have put : ∀ (b : Addr) (o : HO), (True ∧ b ≠ D) → H' b = some o → upd H' D (.lst (us.map V.ref ++ [V.ref lp])) b = some o := fun b o zb e => by
              rw [upd_ne zb.2]
              exact e
            exact paired_snoc (hup.mono fun b p q => q.keep put) (hrow.keep put)
      · obtain ⟨s2, us, hus, hup⟩ := hp
        rw [List.length_map, hts.length, List.take_length] at hup
        have hRw : RwsL (fun _ => True) H2 D rs := by
          refine ⟨trivial, us, hus, ?_⟩
          rw [hrs]
          clear hrs hrows hrlen hsmall hfin hnb hnlen hus hts
          induction hup with
          | nil => exact .nil
          | cons q _ ih => exact .cons (q.imp fun _ _ => trivial) ih
        refine go_name (go_seq (go_cb (lc_rows (σ := [some (.ref a), some (.ref b), some (.ref D), none, none, none, none, none]) (f := wcS false) hRw hrlen rfl rfl (fun l r H' Q' hr hl q => ?_) (fun H3 L s3 hL => ?_))))
        · exact ⟨_, rfl, l, r, _, rfl, hl, hsmall r hr, q⟩
        · have hRw3 := hRw.same s3
          obtain ⟨_, xs, hxs, hxP⟩ := id hRw3
          have hxl : (xs.map V.ref).length = rs.length := by rw [List.length_map, hxP.length]
          refine ⟨L, _, rfl, SqL.of hL, ?_⟩
          refine ⟨_, rfl, D, _, rfl, .inl (SqL.of hxs), _, rfl, _, rfl, D, rs, _, rfl, hRw3, hrlen, hsmall, fun H4 s4 => ?_⟩
          refine go_one (go_cb (lc_rows (σ := [some (.ref a), some (.ref b), some (.ref D), none, some (.int _), none, none, none]) (f := List.length) (hRw3.same s4) hrlen (by rfl) (by rfl) (fun l r H' Q' hr hl q => ?_) (fun H5 L2 s5 hL2 => ?_)))
          · obtain ⟨_, zs, hzs, hzP⟩ := hl
            have e : (zs.map V.ref).length = r.length := by rw [List.length_map, hzP.length]
            refine ⟨_, rfl, l, _, rfl, .inl (SqL.of hzs), ?_⟩
            rw [e]
            exact q H' (Same.refl _)
          · refine ⟨L2, _, rfl, SqL.of hL2, (by show 5 ≤ sizeLine; decide), fun p hp => k _ p ?_⟩
            rw [upd_same, hfin, hxl, sum_nat, sum_nat]
            rfl
end
end Sg

/-! SgGone -/
set_option Elab.async false
set_option linter.all false
set_option maxRecDepth 100000
set_option maxHeartbeats 4000000
namespace Sg
open PySem PySem.Spec PyProof.Rows L2
section
variable {P : Program} {w : World} {K : PySem.W.Frag} {mg : Str → Option Value} {base : Heap}
theorem scBigI : FnScope ["self"] ["self"] (defScope sBigI) := ⟨rfl, rfl, rfl, by decide +kernel, rfl, by decide +kernel, by decide +kernel⟩
theorem ok_bigI {f fB B C : Addr} {fd fdB : FuncData} (F : Fun K "__init__" "TooLarge.__init__" sBigI f fd) (T : OexC K C) (nn : PySem.W.findIn K (.ref C) "number" = some none) (R : TxRef K mg B fB) (G : FnOk P w K mg base CX0 1 fB fdB ["self", "number"] (spRefI K)) (bB : Binds K fdB ["self", "number"] []) :
    FnOk P w K mg base CX0 2 f fd ["self"] (spGoneI C (-6)) := by
  refine F.ok scBigI (fun vs H Q E h => ?_) (fun cdv A outer s H vs Q E hr h => ?_)
  · obtain ⟨p, rfl, _⟩ := h
    rfl
  · obtain ⟨p, rfl, hp, k⟩ := h
    refine ⟨_, pss_one (ps_expr (pe_binit R G hr (by rfl) bB pass0 (by exact (pa_cons (pv 0) (pa_cons (pe_un un_neg pe_int) pa_nil))))), ?_⟩
    refine ⟨_, rfl, _, rfl, p, C, -6, rfl, T, nn, hp, fun dx hd ne => k _ dx hd upd_same ?_⟩
    rw [upd_ne ne, upd_same]
theorem scBeyI : FnScope ["self"] ["self"] (defScope sBeyI) := ⟨rfl, rfl, rfl, by decide +kernel, rfl, by decide +kernel, by decide +kernel⟩
theorem ok_beyI {f fB B C : Addr} {fd fdB : FuncData} (F : Fun K "__init__" "BeyondBounds.__init__" sBeyI f fd) (T : OexC K C) (nn : PySem.W.findIn K (.ref C) "number" = some none) (R : TxRef K mg B fB) (G : FnOk P w K mg base CX0 1 fB fdB ["self", "number"] (spRefI K)) (bB : Binds K fdB ["self", "number"] []) :
    FnOk P w K mg base CX0 2 f fd ["self"] (spGoneI C (-6)) := by
  refine F.ok scBeyI (fun vs H Q E h => ?_) (fun cdv A outer s H vs Q E hr h => ?_)
  · obtain ⟨p, rfl, _⟩ := h
    rfl
  · obtain ⟨p, rfl, hp, k⟩ := h
    refine ⟨_, pss_one (ps_expr (pe_binit R G hr (by rfl) bB pass0 (by exact (pa_cons (pv 0) (pa_cons (pe_un un_neg pe_int) pa_nil))))), ?_⟩
    refine ⟨_, rfl, _, rfl, p, C, -6, rfl, T, nn, hp, fun dx hd ne => k _ dx hd upd_same ?_⟩
    rw [upd_ne ne, upd_same]
end
end Sg

/-! SgTabs -/
set_option Elab.async false
set_option linter.all false
set_option maxRecDepth 100000
set_option maxHeartbeats 4000000
/-! ### the end of a row whose defs make lambdas -/
namespace Sg
open PySem PySem.Spec PyProof.Rows L2 LamX
open PySem.W (WData Codec OpenSpec Well WellAll ReadsW ReadsAllW)
abbrev noRows : Obj := { cls := .none, data := .fields #[] }
mutual
theorem dwUp {K : PySem.W.Frag} {H H' : Hp} (s : Same H H') : ∀ {v : V} {d : WData}, Dw K H v d → Dw K H' v d
  | _, _, .non => .non
  | _, _, .bl b => .bl b
  | _, _, .int i => .int i
  | _, _, .str x => .str x
  | _, _, .byt b => .byt b
  | _, _, .lst q r => .lst (s.seq q) (dwUps s r)
  | _, _, .tup q r => .tup (sqT_same s q) (dwUps s r)
theorem dwUps {K : PySem.W.Frag} {H H' : Hp} (s : Same H H') : ∀ {vs : List V} {ds : List WData}, DwAll K H vs ds → DwAll K H' vs ds
  | _, _, .nil => .nil
  | _, _, .cons q r => .cons (dwUp s q) (dwUps s r)
end
/-- what is known of the arguments' objects and of the empty tables -/
def allH (K : PySem.W.Frag) (hp : Heap) (A T : List Addr) : Hp := fun b => if b ∈ T then some (.tbl #[]) else argH K hp A b
theorem spec_tabs {P : Program} {w : World} {K : PySem.W.Frag} {mg mb : Str → Option Value} {CX : CXT} {k : Nat} {fa : Addr} {fd : FuncData} {ps : List Str} {sp : Sp} {s0 : Shared} {args : List Value} {ds : List WData} {R : PySem.W.WRecords} {cl : Str → Option Addr} {due : WData} {cs : List (Addr × Addr)}
    (kin : K.In s0.heap) (gns : s0.heap.Ns mainGlobals mg) (bns : s0.heap.Ns builtinsNs mb) (boot : ∀ x : Str, x ≠ "__name__" → mb x = bootBuiltins x) (lim : s0.heap.NoLimit) (still : s0.gens = #[])
    (empty : ∀ p ∈ cs, s0.heap.get? p.2 = some noRows) (outK : ∀ p ∈ cs, K.lookup p.2 = none) (code : ∀ p ∈ cs, PySem.W.CodeHd s0.heap p.1 p.2)
    (bmain : ∃ (bm : Addr) (ob : Obj), mg "__builtins__" = some (.ref bm) ∧ bm ≠ builtinsNs ∧ s0.heap.get? bm = some ob ∧ ob.cls = .type "module" ∧ ob.dict = some builtinsNs ∧ ob.data = .plain)
    (well : WellAll w.params s0.heap args ds) (plain : plWs ds = true) (light : ∀ d ∈ ds, d.weight ≤ 1048576) (room : Room k callerA)
    (G : ∀ base : Heap, K.In base → base.Ns mainGlobals mg → (∀ p ∈ cs, TabB base mg p.1 p.2) → FnOk P w K mg base CX k fa fd ps sp) (bind : ∀ (s : Shared) (us : List Value), us.length = ps.length → BindsTo s fd ⟨us, []⟩ (ps.zip us)) (many : ds.length = ps.length)
    (says : ∀ (H : Hp) (xs : List V), (∀ p ∈ cs, H p.2 = some (.tbl #[])) → DwAll K H xs ds → sp xs H (fun v H' => Dw K H' v due) fun _ _ _ => False) (quiet : ∀ H e s', CX [] H s0 (fun _ _ _ => False) e s' → False) :
    codeAny (model P w) callerA (.call (.ref fa) ⟨args, []⟩) (fun r s' => ∃ u as, r = .ok (.ret u) ∧ ReadsW R cl s'.heap u due as ∧ OldK s0.heap s'.heap ∧ s'.os = s0.os ∧ AllBare s'.gens) s0 := by
  obtain ⟨A, inA, area⟩ := area_all ds args well plain light
  have tabOb : ∀ b ∈ cs.map (·.2), s0.heap.get? b = some noRows := fun b hb => by
    obtain ⟨p, hp, rfl⟩ := List.mem_map.mp hb
    exact empty p hp
  have tabIn : ∀ p ∈ cs, p.2 ∈ cs.map (·.2) := fun p hp => List.mem_map.mpr ⟨p, hp, rfl⟩
  obtain ⟨H, eH⟩ : ∃ H, H = allH K s0.heap A (cs.map (·.2)) := ⟨_, rfl⟩
  have atT : ∀ b ∈ cs.map (·.2), H b = some (.tbl #[]) := fun b hb => by
    rw [eH]
    exact if_pos hb
  have notT : ∀ b, b ∉ cs.map (·.2) → H b = argH K s0.heap A b := fun b hb => by
    rw [eH]
    exact if_neg hb
  have seqs : ∀ b u, argH K s0.heap A b = some u → K.lookup b = none ∧ (∃ (vs : List Value) (c : Value), s0.heap.get? b = some { cls := c, data := .seq vs.toArray }) ∧ ∃ o x, u = .frz o x := fun b u q => by
    obtain ⟨h1, vs, _, _, ⟨h2, h3⟩ | ⟨h2, h3⟩⟩ := argH_is area q
    · exact ⟨h1, ⟨vs, _, h2⟩, _, _, h3⟩
    · exact ⟨h1, ⟨vs, _, h2⟩, _, _, h3⟩
  have apart : ∀ b u, argH K s0.heap A b = some u → b ∉ cs.map (·.2) := fun b u q hb => by
    obtain ⟨_, ⟨vs, c, h2⟩, _⟩ := seqs b u q
    rw [tabOb b hb] at h2
    have z := congrArg Obj.data (Option.some.inj h2)
    have z : Data.fields #[] = Data.seq vs.toArray _ := z
    cases z
  have up : Same (argH K s0.heap A) H := fun b u q => (notT b (apart b u q)).trans q
  have ok0 : HOk P w H s0.heap := fun b u q => by
    by_cases hb : b ∈ cs.map (·.2)
    · rw [atT b hb] at q
      cases q
      exact tabOb b hb
    · rw [notT b hb] at q
      exact (argH_ok (P := P) (w := w) area b u q).stay (fun _ _ _ e => e) (fun c e => up c _ e) fun d xs e => up d _ e
  have freeK : ∀ b o, K.lookup b = some o → H b = none := fun b o e => by
    by_cases hb : b ∈ cs.map (·.2)
    · obtain ⟨p, hp, rfl⟩ := List.mem_map.mp hb
      rw [outK p hp] at e
      cases e
    · rw [notT b hb]
      cases q : argH K s0.heap A b with
      | none => rfl
      | some u =>
        rw [(seqs b u q).1] at e
        cases e
  have other : ∀ {b : Addr} {o : Obj}, s0.heap.get? b = some o → (∀ vs n, o.data ≠ .seq vs n) → o.data ≠ .fields #[] → H b = none := fun {b o} e h1 h2 => by
    by_cases hb : b ∈ cs.map (·.2)
    · rw [tabOb b hb] at e
      rw [← Option.some.inj e] at h2
      exact absurd rfl h2
    · rw [notT b hb]
      cases q : argH K s0.heap A b with
      | none => rfl
      | some u =>
        obtain ⟨_, ⟨vs, c, g⟩, _⟩ := seqs b u q
        rw [g] at e
        rw [← Option.some.inj e] at h1
        exact absurd rfl (h1 _ _)
  have shown : ∀ {b : Addr} {o : Obj}, s0.heap.get? b = some o → H b = none → (hidT s0.heap H).get? b = some o := fun e z => hidT_get e z
  have dicts : ∀ {b : Addr} {m : Str → Option Value}, s0.heap.Ns b m → (hidT s0.heap H).Ns b m := fun {b m} ⟨o, es, ep, e, d, r⟩ => ⟨o, es, ep, shown e (other e (fun vs z q => by rw [d] at q; cases q) fun q => by rw [d] at q; cases q), d, r⟩
  have kinB : K.In (hidT s0.heap H) := fun b o e => shown (kin b o e) (freeK b o e)
  have modB : L2.Mod K mg (hidT s0.heap H) := ⟨kinB, dicts gns, ⟨mb, dicts bns, boot⟩, let ⟨mc, h1, h2⟩ := lim; ⟨mc, dicts h1, h2⟩⟩
  have tabB : ∀ p ∈ cs, TabB (hidT s0.heap H) mg p.1 p.2 := fun p hp => by
    have emp := empty p hp
    refine ⟨?_, ?_, fun z => ?_⟩
    · obtain ⟨o, us, file, tf, flags, tg, inF, text, tt, e1, r1, r2, r3, rest⟩ := code p hp
      refine ⟨o, us, file, tf, flags, tg, inF, text, tt, shown e1 (other e1 (fun vs z q => by rw [r2] at q; cases q) fun q => ?_), r1, r2, r3, rest⟩
      rw [r2] at q
      cases q
      simp at r3
    · obtain ⟨bm, ob, b1, b2, b3, b4, b5, b6⟩ := bmain
      refine ⟨bm, ob, b1, b2, fun q => ?_, fun q => ?_, shown b3 (other b3 (fun vs z q => by rw [b6] at q; cases q) fun q => by rw [b6] at q; cases q), b4, b5, b6⟩
      · obtain ⟨o, es, ep, e, hd, _⟩ := gns
        rw [q, e] at b3
        rw [← Option.some.inj b3, hd] at b6
        cases b6
      · rw [q, emp] at b3
        rw [← Option.some.inj b3] at b6
        cases b6
    · obtain ⟨o, es, ep, e, hd, _⟩ := gns
      rw [z, emp] at e
      rw [← Option.some.inj e] at hd
      cases hd
  have env : Env0 P w K mg (hidT s0.heap H) callerA [] s0 H := ⟨rfl, modB, fun _ _ e => of_hidT e, Nat.le_of_eq (hidT_size _ _), trivial, fun b hb => absurd (show b ∈ ([] : List Addr) from hb) (by simp), ok0, .of_eq still⟩
  have cnt : args.length = ps.length := by rw [wellAll_len well]; exact many
  have given := dwUps up (dw_all kin area ds args well plain inA)
  refine codeAny_mono ((G _ kinB (dicts gns) tabB).run callerA [] s0 H ⟨args, []⟩ args (args.map toV) _ _ room env (bind s0 args cnt) (vals_toV inA) (says H _ (fun p hp => atT _ (tabIn p hp)) given)) fun res t post => ?_
  match res, post with
  | .error er, post => exact (quiet H er t post).elim
  | .ok .next, post => exact post.elim
  | .ok .brk, post => exact post.elim
  | .ok .cont, post => exact post.elim
  | .ok (.ret u), post =>
    obtain ⟨v, H', os, bare, un, okE, rel, fin⟩ := post
    have kept : ∀ b o, b ∉ cs.map (·.2) → s0.heap.get? b = some o → t.heap.get? b = some o := fun b o nb e => by
      cases q : argH K s0.heap A b with
      | none => exact un.keep b o e ((notT b nb).trans q) (fun z => absurd (show b ∈ ([] : List Addr) from z) (by simp)) (by simp)
      | some z =>
        obtain ⟨_, _, ob, x, rfl⟩ := seqs b z q
        have q1 := (notT b nb).trans q
        obtain ⟨e1, _⟩ := ok0 b _ q1
        obtain ⟨e2, _⟩ := okE b _ (un.frzs b ob _ q1)
        rw [e] at e1
        cases e1
        exact e2
    have grown : ∀ p ∈ cs, ∃ more : Array Value, t.heap.get? p.2 = some { cls := .none, data := .fields more } := fun p hp => by
      obtain ⟨more, z⟩ := un.tbls p.2 #[] (atT _ (tabIn p hp))
      exact ⟨_, okE p.2 _ z⟩
    have kinE : K.In t.heap := fun b o e => kept b o (fun hb => by
      have := freeK b o e
      rw [atT b hb] at this
      cases this) (kin b o e)
    obtain ⟨as, reads⟩ := Dw.reads (R := R) (cl := cl) okE kinE due v u fin rel
    refine ⟨u, as, rfl, reads, ⟨fun b o e => ?_, fun b o e => ?_⟩, os, bare⟩
    · by_cases hb : b ∈ cs.map (·.2)
      · obtain ⟨p, hp, rfl⟩ := List.mem_map.mp hb
        obtain ⟨more, g⟩ := grown p hp
        rw [empty p hp] at e
        cases e
        exact .inr (.inl ⟨((code p hp).tab (empty p hp)).isCodeTable, rfl, #[], more, rfl, by rw [Array.empty_append]; exact g⟩)
      · exact .inl (kept b o hb e)
    · by_cases hb : b ∈ cs.map (·.2)
      · obtain ⟨p, hp, rfl⟩ := List.mem_map.mp hb
        obtain ⟨more, g⟩ := grown p hp
        exact ⟨_, g⟩
      · exact ⟨o, kept b o hb e⟩
/-- the goal that the head leaves, from the promise of the row's def -/
theorem walk_tabs {r : OpenSpec} {k : Nat} {q : Program} {loose : List Str} {XP : (Str → Option Value) → Heap → Prop} {YP : World → Heap → Prop} {d : DefRec} {K : Params → PySem.W.Frag} {CX : CXT} {ps : List Str}
    (said : r.wellSaid = true) (nodef : d.params.defaults = []) (many : r.args.length = ps.length) (room : Room k callerA) (inK : ∀ (w : World) (h : Heap), YP w h → (K w.params).In h)
    (F : ∀ (w : World) (mg : Str → Option Value) (fa : Addr) (h : Heap), YP w h → (K w.params).In h → h.Ns mainGlobals mg → mg d.name = some (.ref fa) →
      ∃ (fd : FuncData) (cs : List (Addr × Addr)) (sp : Sp), (∀ p ∈ cs, h.get? p.2 = some noRows) ∧ (∀ p ∈ cs, (K w.params).lookup p.2 = none) ∧ (∀ p ∈ cs, PySem.W.CodeHd h p.1 p.2) ∧ (∀ (s : Shared) (us : List Value), us.length = ps.length → BindsTo s fd ⟨us, []⟩ (ps.zip us)) ∧
        (∀ (H : Hp) (xs : List V) (a : Codec.denoteAll r.args), (∀ p ∈ cs, H p.2 = some (.tbl #[])) → Codec.withinAll r.args a = true → Codec.app r.args r.asked a = true → DwAll (K w.params) H xs (Codec.encAll r.args a) →
          sp xs H (fun v H' => Dw (K w.params) H' v (r.ret.enc (Codec.app r.args r.f a))) fun _ _ _ => False) ∧
        ∀ base : Heap, (K w.params).In base → base.Ns mainGlobals mg → (∀ p ∈ cs, TabB base mg p.1 p.2) → FnOk r.prog w (K w.params) mg base CX k fa fd ps sp)
    (quiet : ∀ (H : Hp) (s : Shared) (e : Value) (s' : Shared), CX [] H s (fun _ _ _ => False) e s' → False) : PySem.W.WalkOS q loose XP YP r d [] (fun f vs => PySem.call f vs) := by
  intro w s0 s1 mg mb G Y fa o pm cd doc dV kV ho hd hcd hD hmg hg args vals as pre lay rd wl lo
  obtain ⟨a, e1, e2⟩ := PySem.W.os_pre_some pre
  obtain ⟨e3, wi⟩ := Codec.encAll_of_decAll r.args args a e1
  subst e3
  have kin := inK w _ Y
  obtain ⟨fd, cs, sp, empty, outK, code, bind, says, ok⟩ := F w mg fa _ Y kin G.T.g hmg
  refine PySem.W.enter_call (codeAny_mono (spec_tabs (R := []) (cl := classAt s0.heap) (due := r.ret.enc (Codec.app r.args r.f a)) kin G.T.g G.T.b G.T.builtins G.T.nolimit hg empty outK code G.T.bmain wl (pl_encAll _ _) (layable_weight lay) room ok bind (by rw [encAll_len]; exact many)
    (fun H xs ht hx => says H xs a ht wi e2 hx) fun H e s' => quiet H s1 e s') fun r' s' post => ?_)
  obtain ⟨u, as', rfl, h1, h2, h3, h4⟩ := post
  exact ⟨.inl ⟨u, _, as', rfl, fun _ => rfl, h1, (OpenSpec.post_iff said wi _ _).mpr rfl, fun z => Bool.noConfusion (show false = true from z)⟩, h2, h3, h4⟩
end Sg

/-! SgEnd_s06_segs -/
set_option Elab.async false
set_option linter.all false
set_option maxRecDepth 100000
set_option maxHeartbeats 4000000
namespace Sg
open PySem PySem.Spec PyProof.Rows L2
theorem exm_of {K : PySem.W.Frag} {S D : Addr} {b : Bool} (h1 : PySem.W.subIn K (.ref S) (.type "BaseException") = some true) (h2 : PySem.W.isClsIn K S = true) (h3 : PySem.W.typeIn K (.ref S) = some (.type "type")) (h4 : PySem.W.subIn K (.ref D) (.ref S) = some b) :
    PySem.W.exmOne K (.ref D) (.ref S) = some b := by
  have e1 : (PySem.W.subIn K (.ref S) (.type "BaseException") == some true) = true := by rw [h1] <;> rfl
  have e2 : ((PySem.W.clsIn K S).isSome && PySem.W.typeIn K (.ref S) == some (.type "type")) = true := by
    have h2' : (PySem.W.clsIn K S).isSome = true := h2
    rw [h2', h3] <;> rfl
  show (if (PySem.W.subIn K (.ref S) (.type "BaseException") == some true) = true then (if ((PySem.W.clsIn K S).isSome && PySem.W.typeIn K (.ref S) == some (.type "type")) = true then PySem.W.subIn K (.ref D) (.ref S) else none) else none) = some b
  rw [if_pos e1, if_pos e2]
  exact h4
theorem sq_tup {K : PySem.W.Frag} {H : Hp} {t : Addr} {o : Obj} {a b : Int} {x y : Tok} {n : Nat} (l : K.lookup t = some o) (hc : o.cls = .type "tuple") (hd : o.data = .seq #[.int a x, .int b y] n) : SqT K H t [.int a, .int b] :=
  .inr ⟨o, _, _, l, hc, hd, (by show 2 ≤ sizeLine; decide), .cons ⟨_, rfl⟩ (.cons ⟨_, rfl⟩ .nil)⟩

theorem bv_of : ∀ {ns : List Int}, (∀ z ∈ ns, 0 ≤ z ∧ z ≤ 255) → bv (FbNeutral.bytesOf ns) = ns.map V.int
  | [], _ => rfl
  | z :: r, h => by
    have h1 := h z (List.mem_cons_self ..)
    have e : (((UInt8.ofNat z.toNat).toNat : Nat) : Int) = z := by
      rw [UInt8.toNat_ofNat']
      omega
    show V.int (((UInt8.ofNat z.toNat).toNat : Nat) : Int) :: bv (FbNeutral.bytesOf r) = V.int z :: r.map V.int
    rw [e, bv_of fun z hz => h z (List.mem_cons_of_mem _ hz)]
theorem in_bytes {lo hi : Nat} {ns : List Int} (q : (PySem.W.Codec.inLen lo hi ns && ns.all (PySem.W.Codec.inInt 0 255)) = true) : (∀ z ∈ ns, 0 ≤ z ∧ z ≤ 255) ∧ ns.length ≤ hi := by
  rw [Bool.and_eq_true] at q
  refine ⟨fun z hz => ?_, (PySem.W.Codec.inNat_iff.mp q.1).2⟩
  have := List.all_eq_true.mp q.2 z hz
  unfold PySem.W.Codec.inInt at this
  simpa using this
theorem say_top : ∀ (K : PySem.W.Frag) (H : Hp) (xs : List V) (a : PySem.W.Codec.denoteAll PySem.Challenge.rw_segmentrules_s06_segs.args) (T : List (Addr × Str)), (∀ p ∈ T, H p.1 = some (.tbl #[])) →
    PySem.W.Codec.withinAll PySem.Challenge.rw_segmentrules_s06_segs.args a = true →
    PySem.W.Codec.app PySem.Challenge.rw_segmentrules_s06_segs.args PySem.Challenge.rw_segmentrules_s06_segs.asked a = true →
    DwAll K H xs (PySem.W.Codec.encAll PySem.Challenge.rw_segmentrules_s06_segs.args a) →
    spTopD T K xs H (fun v H' => Dw K H' v (PySem.Challenge.rw_segmentrules_s06_segs.ret.enc (PySem.W.Codec.app PySem.Challenge.rw_segmentrules_s06_segs.args PySem.Challenge.rw_segmentrules_s06_segs.f a))) fun _ _ _ => False := by
  intro K H xs a T hO hwi hask hx
  have q : ((PySem.W.Codec.inLen 0 65600 a.1 && a.1.all (PySem.W.Codec.inInt 0 255)) && ((PySem.W.Codec.inLen 0 110000 a.2.1 && a.2.1.all (PySem.W.Codec.inInt 0 255)) && true)) = true := hwi
  rw [Bool.and_eq_true] at q
  obtain ⟨p0, q1⟩ := q
  rw [Bool.and_eq_true] at q1
  obtain ⟨p1, q2⟩ := q1
  cases hx with | cons h0 hx =>
  cases hx with | cons h1 hx =>
  cases hx
  cases h0 with | lst s0 d0 =>
  have e0 := L2.ints_dw a.1 _ d0
  subst e0
  have b0 := in_bytes p0
  cases h1 with | lst s1 d1 =>
  have e1 := L2.ints_dw a.2.1 _ d1
  subst e1
  have b1 := in_bytes p1
  refine ⟨_, _, FbNeutral.bytesOf a.1, FbNeutral.bytesOf a.2.1, rfl, (bv_of b0.1) ▸ s0, (bv_of b1.1) ▸ s1, fun p hp => LamX.TabS.nil (hO p hp), fun H' p hp => ?_⟩
  exact .lst (L2.SqL.of hp) (L2.dw_ints _)
theorem all_mk {P : Program} {w : World} {K : PySem.W.Frag} {h : Heap} {mg : Str → Option Value} {fa CE dS tS1 tS2 tS3 tS4 dBP CF CG CT CB CR CI CU CS CA CW CQ CL fIsCh fFst fLds fRng fRgs fCls fCer fAtm fItm fBef fBeh fRul fRls fItB fBey fChk fPce fRow fHlv fChs fPrd fInR fCut fCtB fStr fHsS fTrm fSgs fLEd fRaw fPRw fRLn fRDc fByL fNbd fRdA fLaS fDoS fSig fWds fFrm fErl fSiz fTop fEnd fLok fTak fNum fChr fTkU fWIn fWCe fWAt fFwd fBck fSay fWCu fRdI fItI fRuI fStI fPaI fRwI fPtI fLnI fFlI fRfI fFkI coLaS tLaS fBigI fBBI dSg g1 g2 g3 g4 g5 g6 g7 g8 g9 : Addr} (X : K.In h) (G : h.Ns mainGlobals mg) (hfa : mg "segs" = some (.ref fa))
    {uNO_RULES : Tok}
    {uNO_DOCUMENT : Tok}
    {uNO_BYTE : Tok}
    {uLAST_NUMBER : Tok}
    {uLINE_FEED : Tok}
    {uBLANK : Tok}
    {uPLUS : Tok}
    {uHYPHEN : Tok}
    {uDOT : Tok}
    {uNOUGHT : Tok}
    {uNINE : Tok}
    {uBAR : Tok}
    {uQUOTE : Tok}
    {uDOLLAR : Tok}
    {uPERCENT : Tok}
    {uSTAR : Tok}
    {uCARET : Tok}
    {uANY : Tok}
    {uOF_CLASS : Tok}
    {uCERTAIN : Tok}
    {uLAST_CLASS : Tok}
    {uMOST_TIMES : Tok}
    {uMOST_RULES : Tok}
    {uMOST_RANGES : Tok}
    {uMOST_ITEMS : Tok}
    {uMOST_CHARACTERS_rulestext : Tok}
    {uLEFT_BRACE : Tok}
    {uRIGHT_BRACE : Tok}
    {uCHARACTER : Tok}
    {uOPENS : Tok}
    {uCLOSES : Tok}
    {uALONE : Tok}
    {uLAST_TAG : Tok}
    {uMOST_PIECES : Tok}
    {uRAW_SIGN : Tok}
    {uPARAGRAPH_SIGN : Tok}
    {uMOST_DOCUMENT_BYTES : Tok}
    {uMOST_LINES : Tok}
    {uMOST_CHARACTERS_documenttext : Tok}
    {uMOST_RULES_BYTES : Tok}
    {ocRdI kVRdI dcRdI pmRdI cdRdI ctRdI : Value} {odRdI anRdI : Option Addr} {slRdI : Array (Option Value)}
    {ocItI kVItI dcItI pmItI cdItI ctItI : Value} {odItI anItI : Option Addr} {slItI : Array (Option Value)}
    {ocRuI kVRuI dcRuI pmRuI cdRuI ctRuI : Value} {odRuI anRuI : Option Addr} {slRuI : Array (Option Value)}
    {ocStI kVStI dcStI pmStI cdStI ctStI : Value} {odStI anStI : Option Addr} {slStI : Array (Option Value)}
    {ocPaI kVPaI dcPaI pmPaI cdPaI ctPaI : Value} {odPaI anPaI : Option Addr} {slPaI : Array (Option Value)}
    {ocRwI kVRwI dcRwI pmRwI cdRwI ctRwI : Value} {odRwI anRwI : Option Addr} {slRwI : Array (Option Value)}
    {ocPtI kVPtI dcPtI pmPtI cdPtI ctPtI : Value} {odPtI anPtI : Option Addr} {slPtI : Array (Option Value)}
    {ocLnI kVLnI dcLnI pmLnI cdLnI ctLnI : Value} {odLnI anLnI : Option Addr} {slLnI : Array (Option Value)}
    {ocEnd kVEnd dcEnd pmEnd cdEnd ctEnd : Value} {odEnd anEnd : Option Addr} {slEnd : Array (Option Value)}
    {ocLok kVLok dcLok pmLok cdLok ctLok : Value} {odLok anLok : Option Addr} {slLok : Array (Option Value)}
    {ocTak kVTak dcTak pmTak cdTak ctTak : Value} {odTak anTak : Option Addr} {slTak : Array (Option Value)}
    {ocNum kVNum dcNum pmNum cdNum ctNum : Value} {odNum anNum : Option Addr} {slNum : Array (Option Value)}
    {ocChr kVChr dcChr pmChr cdChr ctChr : Value} {odChr anChr : Option Addr} {slChr : Array (Option Value)}
    {ocTkU kVTkU dcTkU pmTkU cdTkU ctTkU : Value} {odTkU anTkU : Option Addr} {slTkU : Array (Option Value)}
    {ocWIn kVWIn dcWIn pmWIn cdWIn ctWIn : Value} {odWIn anWIn : Option Addr} {slWIn : Array (Option Value)}
    {ocWCe kVWCe dcWCe pmWCe cdWCe ctWCe : Value} {odWCe anWCe : Option Addr} {slWCe : Array (Option Value)}
    {ocWAt kVWAt dcWAt pmWAt cdWAt ctWAt : Value} {odWAt anWAt : Option Addr} {slWAt : Array (Option Value)}
    {ocFwd kVFwd dcFwd pmFwd cdFwd ctFwd : Value} {odFwd anFwd : Option Addr} {slFwd : Array (Option Value)}
    {ocBck kVBck dcBck pmBck cdBck ctBck : Value} {odBck anBck : Option Addr} {slBck : Array (Option Value)}
    {ocSay kVSay dcSay pmSay cdSay ctSay : Value} {odSay anSay : Option Addr} {slSay : Array (Option Value)}
    {ocWCu kVWCu dcWCu pmWCu cdWCu ctWCu : Value} {odWCu anWCu : Option Addr} {slWCu : Array (Option Value)}
    {ocIsCh kVIsCh dcIsCh pmIsCh cdIsCh ctIsCh : Value} {odIsCh anIsCh : Option Addr} {slIsCh : Array (Option Value)}
    {ocFst kVFst dcFst pmFst cdFst ctFst : Value} {odFst anFst : Option Addr} {slFst : Array (Option Value)}
    {ocLds kVLds dcLds pmLds cdLds ctLds : Value} {odLds anLds : Option Addr} {slLds : Array (Option Value)}
    {ocRng kVRng dcRng pmRng cdRng ctRng : Value} {odRng anRng : Option Addr} {slRng : Array (Option Value)}
    {ocRgs kVRgs dcRgs pmRgs cdRgs ctRgs : Value} {odRgs anRgs : Option Addr} {slRgs : Array (Option Value)}
    {ocCls kVCls dcCls pmCls cdCls ctCls : Value} {odCls anCls : Option Addr} {slCls : Array (Option Value)}
    {ocCer kVCer dcCer pmCer cdCer ctCer : Value} {odCer anCer : Option Addr} {slCer : Array (Option Value)}
    {ocAtm kVAtm dcAtm pmAtm cdAtm ctAtm : Value} {odAtm anAtm : Option Addr} {slAtm : Array (Option Value)}
    {ocItm kVItm dcItm pmItm cdItm ctItm : Value} {odItm anItm : Option Addr} {slItm : Array (Option Value)}
    {ocBef kVBef dcBef pmBef cdBef ctBef : Value} {odBef anBef : Option Addr} {slBef : Array (Option Value)}
    {ocBeh kVBeh dcBeh pmBeh cdBeh ctBeh : Value} {odBeh anBeh : Option Addr} {slBeh : Array (Option Value)}
    {ocRul kVRul dcRul pmRul cdRul ctRul : Value} {odRul anRul : Option Addr} {slRul : Array (Option Value)}
    {ocRls kVRls dcRls pmRls cdRls ctRls : Value} {odRls anRls : Option Addr} {slRls : Array (Option Value)}
    {ocItB kVItB dcItB pmItB cdItB ctItB : Value} {odItB anItB : Option Addr} {slItB : Array (Option Value)}
    {ocBey kVBey dcBey pmBey cdBey ctBey : Value} {odBey anBey : Option Addr} {slBey : Array (Option Value)}
    {ocChk kVChk dcChk pmChk cdChk ctChk : Value} {odChk anChk : Option Addr} {slChk : Array (Option Value)}
    {ocPce kVPce dcPce pmPce cdPce ctPce : Value} {odPce anPce : Option Addr} {slPce : Array (Option Value)}
    {ocRow kVRow dcRow pmRow cdRow ctRow : Value} {odRow anRow : Option Addr} {slRow : Array (Option Value)}
    {ocHlv kVHlv dcHlv pmHlv cdHlv ctHlv : Value} {odHlv anHlv : Option Addr} {slHlv : Array (Option Value)}
    {ocChs kVChs dcChs pmChs cdChs ctChs : Value} {odChs anChs : Option Addr} {slChs : Array (Option Value)}
    {ocPrd kVPrd dcPrd pmPrd cdPrd ctPrd : Value} {odPrd anPrd : Option Addr} {slPrd : Array (Option Value)}
    {ocInR kVInR dcInR pmInR cdInR ctInR : Value} {odInR anInR : Option Addr} {slInR : Array (Option Value)}
    {ocCut kVCut dcCut pmCut cdCut ctCut : Value} {odCut anCut : Option Addr} {slCut : Array (Option Value)}
    {ocCtB kVCtB dcCtB pmCtB cdCtB ctCtB : Value} {odCtB anCtB : Option Addr} {slCtB : Array (Option Value)}
    {ocStr kVStr dcStr pmStr cdStr ctStr : Value} {odStr anStr : Option Addr} {slStr : Array (Option Value)}
    {ocHsS kVHsS dcHsS pmHsS cdHsS ctHsS : Value} {odHsS anHsS : Option Addr} {slHsS : Array (Option Value)}
    {ocTrm kVTrm dcTrm pmTrm cdTrm ctTrm : Value} {odTrm anTrm : Option Addr} {slTrm : Array (Option Value)}
    {ocSgs kVSgs dcSgs pmSgs cdSgs ctSgs : Value} {odSgs anSgs : Option Addr} {slSgs : Array (Option Value)}
    {ocLEd kVLEd dcLEd pmLEd cdLEd ctLEd : Value} {odLEd anLEd : Option Addr} {slLEd : Array (Option Value)}
    {ocRaw kVRaw dcRaw pmRaw cdRaw ctRaw : Value} {odRaw anRaw : Option Addr} {slRaw : Array (Option Value)}
    {ocPRw kVPRw dcPRw pmPRw cdPRw ctPRw : Value} {odPRw anPRw : Option Addr} {slPRw : Array (Option Value)}
    {ocRLn kVRLn dcRLn pmRLn cdRLn ctRLn : Value} {odRLn anRLn : Option Addr} {slRLn : Array (Option Value)}
    {ocRDc kVRDc dcRDc pmRDc cdRDc ctRDc : Value} {odRDc anRDc : Option Addr} {slRDc : Array (Option Value)}
    {ocByL kVByL dcByL pmByL cdByL ctByL : Value} {odByL anByL : Option Addr} {slByL : Array (Option Value)}
    {ocNbd kVNbd dcNbd pmNbd cdNbd ctNbd : Value} {odNbd anNbd : Option Addr} {slNbd : Array (Option Value)}
    {ocRdA kVRdA dcRdA pmRdA cdRdA ctRdA : Value} {odRdA anRdA : Option Addr} {slRdA : Array (Option Value)}
    {ocLaS kVLaS dcLaS pmLaS ctLaS : Value} {odLaS anLaS : Option Addr} {slLaS : Array (Option Value)}
    {ccLaS : Value} {cqLaS : Option Addr} {cvLaS : Array Value} {clLaS : Array (Option Value)}
    {ocDoS kVDoS dcDoS pmDoS cdDoS ctDoS : Value} {odDoS anDoS : Option Addr} {slDoS : Array (Option Value)}
    {ocSig kVSig dcSig pmSig cdSig ctSig : Value} {odSig anSig : Option Addr} {slSig : Array (Option Value)}
    {ocWds kVWds dcWds pmWds cdWds ctWds : Value} {odWds anWds : Option Addr} {slWds : Array (Option Value)}
    {ocFrm kVFrm dcFrm pmFrm cdFrm ctFrm : Value} {odFrm anFrm : Option Addr} {slFrm : Array (Option Value)}
    {ocErl kVErl dcErl pmErl cdErl ctErl : Value} {odErl anErl : Option Addr} {slErl : Array (Option Value)}
    {ocSiz kVSiz dcSiz pmSiz cdSiz ctSiz : Value} {odSiz anSiz : Option Addr} {slSiz : Array (Option Value)}
    {ocTop kVTop dcTop pmTop cdTop ctTop : Value} {odTop anTop : Option Addr} {slTop : Array (Option Value)}
    {ocRfI kVRfI dcRfI pmRfI cdRfI ctRfI : Value} {odRfI anRfI : Option Addr} {slRfI : Array (Option Value)}
    {nmCF qCF : Str} {NCF : Addr} {bsCF : List Value} {snCF : List Str} {subCF : List Value} {abCF : Bool} {colCF : Option Bool} {ddCF : Option Addr} {m0CF m1CF m2CF m3CF m5CF : Option Value}
    {nmCG qCG : Str} {NCG : Addr} {bsCG : List Value} {snCG : List Str} {subCG : List Value} {abCG : Bool} {colCG : Option Bool} {ddCG : Option Addr} {m0CG m1CG m2CG m3CG m5CG : Option Value}
    {nmCT qCT : Str} {NCT : Addr} {bsCT : List Value} {snCT : List Str} {subCT : List Value} {abCT : Bool} {colCT : Option Bool} {ddCT : Option Addr} {m0CT m1CT m2CT m3CT m5CT : Option Value}
    {nmCB qCB : Str} {NCB : Addr} {bsCB : List Value} {snCB : List Str} {subCB : List Value} {abCB : Bool} {colCB : Option Bool} {ddCB : Option Addr} {m0CB m1CB m2CB m3CB m5CB : Option Value}
    {ocFlI kVFlI dcFlI pmFlI cdFlI ctFlI : Value} {odFlI anFlI : Option Addr} {slFlI : Array (Option Value)}
    {ocFkI kVFkI dcFkI pmFkI cdFkI ctFkI : Value} {odFkI anFkI : Option Addr} {slFkI : Array (Option Value)}
    {ocBigI kVBigI dcBigI pmBigI cdBigI ctBigI : Value} {odBigI anBigI : Option Addr} {slBigI : Array (Option Value)}
    {ocBBI kVBBI dcBBI pmBBI cdBBI ctBBI : Value} {odBBI anBBI : Option Addr} {slBBI : Array (Option Value)}
    {e1 e2 e3 e4 : Tok}
    {x1 y1 : Tok} {z1 : Nat} {w1 : Option Addr} {v1 : Array (Option Value)}
    {x2 y2 : Tok} {z2 : Nat} {w2 : Option Addr} {v2 : Array (Option Value)}
    {x3 y3 : Tok} {z3 : Nat} {w3 : Option Addr} {v3 : Array (Option Value)}
    {x4 y4 : Tok} {z4 : Nat} {w4 : Option Addr} {v4 : Array (Option Value)}
    {xBP yBP : Tok} {zBP : Nat} {wBP : Option Addr} {vBP : Array (Option Value)}
    {wSg : Option Addr} {zSg : Nat} {vSg : Array (Option Value)}
    {xG1 yG1 : Tok} {zG1 : Nat} {wG1 : Option Addr} {vG1 : Array (Option Value)}
    {xG2 yG2 : Tok} {zG2 : Nat} {wG2 : Option Addr} {vG2 : Array (Option Value)}
    {xG3 yG3 : Tok} {zG3 : Nat} {wG3 : Option Addr} {vG3 : Array (Option Value)}
    {xG4 yG4 : Tok} {zG4 : Nat} {wG4 : Option Addr} {vG4 : Array (Option Value)}
    {xG5 yG5 : Tok} {zG5 : Nat} {wG5 : Option Addr} {vG5 : Array (Option Value)}
    {xG6 yG6 : Tok} {zG6 : Nat} {wG6 : Option Addr} {vG6 : Array (Option Value)}
    {xG7 yG7 : Tok} {zG7 : Nat} {wG7 : Option Addr} {vG7 : Array (Option Value)}
    {xG8 yG8 : Tok} {zG8 : Nat} {wG8 : Option Addr} {vG8 : Array (Option Value)}
    {xG9 yG9 : Tok} {zG9 : Nat} {wG9 : Option Addr} {vG9 : Array (Option Value)}
    (blen : PySem.W.nsIn K mainGlobals "len" = some none)
    (bany : PySem.W.nsIn K mainGlobals "any" = some none)
    (brange : PySem.W.nsIn K mainGlobals "range" = some none)
    (blist : PySem.W.nsIn K mainGlobals "list" = some none)
    (benumerate : PySem.W.nsIn K mainGlobals "enumerate" = some none)
    (breversed : PySem.W.nsIn K mainGlobals "reversed" = some none)
    (bsum : PySem.W.nsIn K mainGlobals "sum" = some none)
    (bzip : PySem.W.nsIn K mainGlobals "zip" = some none)
    (btuple : PySem.W.nsIn K mainGlobals "tuple" = some none)
    (nNO_RULES : PySem.W.nsIn K mainGlobals "NO_RULES" = some (some (.int 6 uNO_RULES)))
    (nNO_DOCUMENT : PySem.W.nsIn K mainGlobals "NO_DOCUMENT" = some (some (.int 7 uNO_DOCUMENT)))
    (nNO_BYTE : PySem.W.nsIn K mainGlobals "NO_BYTE" = some (some (.int 256 uNO_BYTE)))
    (nLAST_NUMBER : PySem.W.nsIn K mainGlobals "LAST_NUMBER" = some (some (.int 1114111 uLAST_NUMBER)))
    (nLINE_FEED : PySem.W.nsIn K mainGlobals "LINE_FEED" = some (some (.int 10 uLINE_FEED)))
    (nBLANK : PySem.W.nsIn K mainGlobals "BLANK" = some (some (.int 32 uBLANK)))
    (nPLUS : PySem.W.nsIn K mainGlobals "PLUS" = some (some (.int 43 uPLUS)))
    (nHYPHEN : PySem.W.nsIn K mainGlobals "HYPHEN" = some (some (.int 45 uHYPHEN)))
    (nDOT : PySem.W.nsIn K mainGlobals "DOT" = some (some (.int 46 uDOT)))
    (nNOUGHT : PySem.W.nsIn K mainGlobals "NOUGHT" = some (some (.int 48 uNOUGHT)))
    (nNINE : PySem.W.nsIn K mainGlobals "NINE" = some (some (.int 57 uNINE)))
    (nBAR : PySem.W.nsIn K mainGlobals "BAR" = some (some (.int 124 uBAR)))
    (nQUOTE : PySem.W.nsIn K mainGlobals "QUOTE" = some (some (.int 34 uQUOTE)))
    (nDOLLAR : PySem.W.nsIn K mainGlobals "DOLLAR" = some (some (.int 36 uDOLLAR)))
    (nPERCENT : PySem.W.nsIn K mainGlobals "PERCENT" = some (some (.int 37 uPERCENT)))
    (nSTAR : PySem.W.nsIn K mainGlobals "STAR" = some (some (.int 42 uSTAR)))
    (nCARET : PySem.W.nsIn K mainGlobals "CARET" = some (some (.int 94 uCARET)))
    (nANY : PySem.W.nsIn K mainGlobals "ANY" = some (some (.int 0 uANY)))
    (nOF_CLASS : PySem.W.nsIn K mainGlobals "OF_CLASS" = some (some (.int 1 uOF_CLASS)))
    (nCERTAIN : PySem.W.nsIn K mainGlobals "CERTAIN" = some (some (.int 2 uCERTAIN)))
    (nLAST_CLASS : PySem.W.nsIn K mainGlobals "LAST_CLASS" = some (some (.int 15 uLAST_CLASS)))
    (nMOST_TIMES : PySem.W.nsIn K mainGlobals "MOST_TIMES" = some (some (.int 32 uMOST_TIMES)))
    (nMOST_RULES : PySem.W.nsIn K mainGlobals "MOST_RULES" = some (some (.int 256 uMOST_RULES)))
    (nMOST_RANGES : PySem.W.nsIn K mainGlobals "MOST_RANGES" = some (some (.int 256 uMOST_RANGES)))
    (nMOST_ITEMS : PySem.W.nsIn K mainGlobals "MOST_ITEMS" = some (some (.int 16 uMOST_ITEMS)))
    (nMOST_CHARACTERS_rulestext : PySem.W.nsIn K mainGlobals "MOST_CHARACTERS_rulestext" = some (some (.int 32 uMOST_CHARACTERS_rulestext)))
    (nLEFT_BRACE : PySem.W.nsIn K mainGlobals "LEFT_BRACE" = some (some (.int 123 uLEFT_BRACE)))
    (nRIGHT_BRACE : PySem.W.nsIn K mainGlobals "RIGHT_BRACE" = some (some (.int 125 uRIGHT_BRACE)))
    (nCHARACTER : PySem.W.nsIn K mainGlobals "CHARACTER" = some (some (.int 0 uCHARACTER)))
    (nOPENS : PySem.W.nsIn K mainGlobals "OPENS" = some (some (.int 43 uOPENS)))
    (nCLOSES : PySem.W.nsIn K mainGlobals "CLOSES" = some (some (.int 45 uCLOSES)))
    (nALONE : PySem.W.nsIn K mainGlobals "ALONE" = some (some (.int 46 uALONE)))
    (nLAST_TAG : PySem.W.nsIn K mainGlobals "LAST_TAG" = some (some (.int 999 uLAST_TAG)))
    (nMOST_PIECES : PySem.W.nsIn K mainGlobals "MOST_PIECES" = some (some (.int 4096 uMOST_PIECES)))
    (nRAW_SIGN : PySem.W.nsIn K mainGlobals "RAW_SIGN" = some (some (.int 124 uRAW_SIGN)))
    (nPARAGRAPH_SIGN : PySem.W.nsIn K mainGlobals "PARAGRAPH_SIGN" = some (some (.int 62 uPARAGRAPH_SIGN)))
    (nMOST_DOCUMENT_BYTES : PySem.W.nsIn K mainGlobals "MOST_DOCUMENT_BYTES" = some (some (.int 262144 uMOST_DOCUMENT_BYTES)))
    (nMOST_LINES : PySem.W.nsIn K mainGlobals "MOST_LINES" = some (some (.int 16384 uMOST_LINES)))
    (nMOST_CHARACTERS_documenttext : PySem.W.nsIn K mainGlobals "MOST_CHARACTERS_documenttext" = some (some (.int 4096 uMOST_CHARACTERS_documenttext)))
    (nMOST_RULES_BYTES : PySem.W.nsIn K mainGlobals "MOST_RULES_BYTES" = some (some (.int 65536 uMOST_RULES_BYTES)))
    (aCR : PySem.W.nsIn K mainGlobals "Reader" = some (some (.ref CR)))
    (pgCR : PySem.W.plainGet K CR Str.empty = true)
    (hdCR : PySem.W.hasDictIn K CR = true)
    (poCR : PySem.W.plainOver K CR = true)
    (saCR : PySem.W.findIn K (.ref CR) "__setattr__" = some (some (.builtin "object.__setattr__")))
    (mkCR : PySem.W.makesIn K CR = true)
    (kkCR : PySem.W.keepIn K (.ref CR) = true)
    (noCRtext : PySem.W.findIn K (.ref CR) "text" = some none)
    (noCRplace : PySem.W.findIn K (.ref CR) "place" = some none)
    (noCRbehind : PySem.W.findIn K (.ref CR) "behind" = some none)
    (aCI : PySem.W.nsIn K mainGlobals "Item" = some (some (.ref CI)))
    (pgCI : PySem.W.plainGet K CI Str.empty = true)
    (hdCI : PySem.W.hasDictIn K CI = true)
    (poCI : PySem.W.plainOver K CI = true)
    (saCI : PySem.W.findIn K (.ref CI) "__setattr__" = some (some (.builtin "object.__setattr__")))
    (mkCI : PySem.W.makesIn K CI = true)
    (kkCI : PySem.W.keepIn K (.ref CI) = true)
    (noCIkind : PySem.W.findIn K (.ref CI) "kind" = some none)
    (noCIatom : PySem.W.findIn K (.ref CI) "atom" = some none)
    (noCIleast : PySem.W.findIn K (.ref CI) "least" = some none)
    (noCImost : PySem.W.findIn K (.ref CI) "most" = some none)
    (aCU : PySem.W.nsIn K mainGlobals "Rule" = some (some (.ref CU)))
    (pgCU : PySem.W.plainGet K CU Str.empty = true)
    (hdCU : PySem.W.hasDictIn K CU = true)
    (poCU : PySem.W.plainOver K CU = true)
    (saCU : PySem.W.findIn K (.ref CU) "__setattr__" = some (some (.builtin "object.__setattr__")))
    (mkCU : PySem.W.makesIn K CU = true)
    (kkCU : PySem.W.keepIn K (.ref CU) = true)
    (noCUcuts : PySem.W.findIn K (.ref CU) "cuts" = some none)
    (noCUfrom_beginning : PySem.W.findIn K (.ref CU) "from_beginning" = some none)
    (noCUbefore : PySem.W.findIn K (.ref CU) "before" = some none)
    (noCUbehind : PySem.W.findIn K (.ref CU) "behind" = some none)
    (noCUto_end : PySem.W.findIn K (.ref CU) "to_end" = some none)
    (aCS : PySem.W.nsIn K mainGlobals "RuleSet" = some (some (.ref CS)))
    (pgCS : PySem.W.plainGet K CS Str.empty = true)
    (hdCS : PySem.W.hasDictIn K CS = true)
    (poCS : PySem.W.plainOver K CS = true)
    (saCS : PySem.W.findIn K (.ref CS) "__setattr__" = some (some (.builtin "object.__setattr__")))
    (mkCS : PySem.W.makesIn K CS = true)
    (kkCS : PySem.W.keepIn K (.ref CS) = true)
    (noCSclasses : PySem.W.findIn K (.ref CS) "classes" = some none)
    (noCSrules : PySem.W.findIn K (.ref CS) "rules" = some none)
    (aCA : PySem.W.nsIn K mainGlobals "Paragraphs" = some (some (.ref CA)))
    (pgCA : PySem.W.plainGet K CA Str.empty = true)
    (hdCA : PySem.W.hasDictIn K CA = true)
    (poCA : PySem.W.plainOver K CA = true)
    (saCA : PySem.W.findIn K (.ref CA) "__setattr__" = some (some (.builtin "object.__setattr__")))
    (mkCA : PySem.W.makesIn K CA = true)
    (kkCA : PySem.W.keepIn K (.ref CA) = true)
    (noCAbeginnings : PySem.W.findIn K (.ref CA) "beginnings" = some none)
    (noCAends : PySem.W.findIn K (.ref CA) "ends" = some none)
    (noCAof_character : PySem.W.findIn K (.ref CA) "of_character" = some none)
    (noCAeverywhere : PySem.W.findIn K (.ref CA) "everywhere" = some none)
    (noCAof_class : PySem.W.findIn K (.ref CA) "of_class" = some none)
    (aCW : PySem.W.nsIn K mainGlobals "Row" = some (some (.ref CW)))
    (pgCW : PySem.W.plainGet K CW Str.empty = true)
    (hdCW : PySem.W.hasDictIn K CW = true)
    (poCW : PySem.W.plainOver K CW = true)
    (saCW : PySem.W.findIn K (.ref CW) "__setattr__" = some (some (.builtin "object.__setattr__")))
    (mkCW : PySem.W.makesIn K CW = true)
    (kkCW : PySem.W.keepIn K (.ref CW) = true)
    (noCWtext : PySem.W.findIn K (.ref CW) "text" = some none)
    (noCWpieces : PySem.W.findIn K (.ref CW) "pieces" = some none)
    (noCWstarts : PySem.W.findIn K (.ref CW) "starts" = some none)
    (aCQ : PySem.W.nsIn K mainGlobals "Part" = some (some (.ref CQ)))
    (pgCQ : PySem.W.plainGet K CQ Str.empty = true)
    (hdCQ : PySem.W.hasDictIn K CQ = true)
    (poCQ : PySem.W.plainOver K CQ = true)
    (saCQ : PySem.W.findIn K (.ref CQ) "__setattr__" = some (some (.builtin "object.__setattr__")))
    (mkCQ : PySem.W.makesIn K CQ = true)
    (kkCQ : PySem.W.keepIn K (.ref CQ) = true)
    (noCQfirst : PySem.W.findIn K (.ref CQ) "first" = some none)
    (noCQbehind : PySem.W.findIn K (.ref CQ) "behind" = some none)
    (noCQpieces : PySem.W.findIn K (.ref CQ) "pieces" = some none)
    (noCQtext : PySem.W.findIn K (.ref CQ) "text" = some none)
    (aCL : PySem.W.nsIn K mainGlobals "Line" = some (some (.ref CL)))
    (pgCL : PySem.W.plainGet K CL Str.empty = true)
    (hdCL : PySem.W.hasDictIn K CL = true)
    (poCL : PySem.W.plainOver K CL = true)
    (saCL : PySem.W.findIn K (.ref CL) "__setattr__" = some (some (.builtin "object.__setattr__")))
    (mkCL : PySem.W.makesIn K CL = true)
    (kkCL : PySem.W.keepIn K (.ref CL) = true)
    (noCLtext : PySem.W.findIn K (.ref CL) "text" = some none)
    (noCLrow : PySem.W.findIn K (.ref CL) "row" = some none)
    (aRdI : PySem.W.findIn K (.ref CR) "__init__" = some (some (.ref fRdI)))
    (iRdI : PySem.W.isFn K (.ref fRdI) = true)
    (lRdI : K.lookup fRdI = some ⟨ocRdI, odRdI, .func (PySem.W.fnOf "__init__" "Reader.__init__" (defArgs sRdI) (defBody sRdI) (defScope sRdI) .none kVRdI dcRdI pmRdI anRdI cdRdI ctRdI), slRdI⟩)
    (cRdI : PySem.W.codeIn K cdRdI "Reader.__init__" = true)
    (kRdI : PySem.W.keepIn K (.ref fRdI) = true)
    (aItI : PySem.W.findIn K (.ref CI) "__init__" = some (some (.ref fItI)))
    (iItI : PySem.W.isFn K (.ref fItI) = true)
    (lItI : K.lookup fItI = some ⟨ocItI, odItI, .func (PySem.W.fnOf "__init__" "Item.__init__" (defArgs sItemI) (defBody sItemI) (defScope sItemI) .none kVItI dcItI pmItI anItI cdItI ctItI), slItI⟩)
    (cItI : PySem.W.codeIn K cdItI "Item.__init__" = true)
    (kItI : PySem.W.keepIn K (.ref fItI) = true)
    (aRuI : PySem.W.findIn K (.ref CU) "__init__" = some (some (.ref fRuI)))
    (iRuI : PySem.W.isFn K (.ref fRuI) = true)
    (lRuI : K.lookup fRuI = some ⟨ocRuI, odRuI, .func (PySem.W.fnOf "__init__" "Rule.__init__" (defArgs sRuleI) (defBody sRuleI) (defScope sRuleI) .none kVRuI dcRuI pmRuI anRuI cdRuI ctRuI), slRuI⟩)
    (cRuI : PySem.W.codeIn K cdRuI "Rule.__init__" = true)
    (kRuI : PySem.W.keepIn K (.ref fRuI) = true)
    (aStI : PySem.W.findIn K (.ref CS) "__init__" = some (some (.ref fStI)))
    (iStI : PySem.W.isFn K (.ref fStI) = true)
    (lStI : K.lookup fStI = some ⟨ocStI, odStI, .func (PySem.W.fnOf "__init__" "RuleSet.__init__" (defArgs sSetI) (defBody sSetI) (defScope sSetI) .none kVStI dcStI pmStI anStI cdStI ctStI), slStI⟩)
    (cStI : PySem.W.codeIn K cdStI "RuleSet.__init__" = true)
    (kStI : PySem.W.keepIn K (.ref fStI) = true)
    (aPaI : PySem.W.findIn K (.ref CA) "__init__" = some (some (.ref fPaI)))
    (iPaI : PySem.W.isFn K (.ref fPaI) = true)
    (lPaI : K.lookup fPaI = some ⟨ocPaI, odPaI, .func (PySem.W.fnOf "__init__" "Paragraphs.__init__" (defArgs sPaI) (defBody sPaI) (defScope sPaI) .none kVPaI dcPaI pmPaI anPaI cdPaI ctPaI), slPaI⟩)
    (cPaI : PySem.W.codeIn K cdPaI "Paragraphs.__init__" = true)
    (kPaI : PySem.W.keepIn K (.ref fPaI) = true)
    (aRwI : PySem.W.findIn K (.ref CW) "__init__" = some (some (.ref fRwI)))
    (iRwI : PySem.W.isFn K (.ref fRwI) = true)
    (lRwI : K.lookup fRwI = some ⟨ocRwI, odRwI, .func (PySem.W.fnOf "__init__" "Row.__init__" (defArgs sRowI) (defBody sRowI) (defScope sRowI) .none kVRwI dcRwI pmRwI anRwI cdRwI ctRwI), slRwI⟩)
    (cRwI : PySem.W.codeIn K cdRwI "Row.__init__" = true)
    (kRwI : PySem.W.keepIn K (.ref fRwI) = true)
    (aPtI : PySem.W.findIn K (.ref CQ) "__init__" = some (some (.ref fPtI)))
    (iPtI : PySem.W.isFn K (.ref fPtI) = true)
    (lPtI : K.lookup fPtI = some ⟨ocPtI, odPtI, .func (PySem.W.fnOf "__init__" "Part.__init__" (defArgs sPartI) (defBody sPartI) (defScope sPartI) .none kVPtI dcPtI pmPtI anPtI cdPtI ctPtI), slPtI⟩)
    (cPtI : PySem.W.codeIn K cdPtI "Part.__init__" = true)
    (kPtI : PySem.W.keepIn K (.ref fPtI) = true)
    (aLnI : PySem.W.findIn K (.ref CL) "__init__" = some (some (.ref fLnI)))
    (iLnI : PySem.W.isFn K (.ref fLnI) = true)
    (lLnI : K.lookup fLnI = some ⟨ocLnI, odLnI, .func (PySem.W.fnOf "__init__" "Line.__init__" (defArgs sLineI) (defBody sLineI) (defScope sLineI) .none kVLnI dcLnI pmLnI anLnI cdLnI ctLnI), slLnI⟩)
    (cLnI : PySem.W.codeIn K cdLnI "Line.__init__" = true)
    (kLnI : PySem.W.keepIn K (.ref fLnI) = true)
    (aEnd : PySem.W.findIn K (.ref CR) "ended" = some (some (.ref fEnd)))
    (iEnd : PySem.W.isFn K (.ref fEnd) = true)
    (lEnd : K.lookup fEnd = some ⟨ocEnd, odEnd, .func (PySem.W.fnOf "ended" "Reader.ended" (defArgs sEnded) (defBody sEnded) (defScope sEnded) .none kVEnd dcEnd pmEnd anEnd cdEnd ctEnd), slEnd⟩)
    (cEnd : PySem.W.codeIn K cdEnd "Reader.ended" = true)
    (kEnd : PySem.W.keepIn K (.ref fEnd) = true)
    (aLok : PySem.W.findIn K (.ref CR) "look" = some (some (.ref fLok)))
    (iLok : PySem.W.isFn K (.ref fLok) = true)
    (lLok : K.lookup fLok = some ⟨ocLok, odLok, .func (PySem.W.fnOf "look" "Reader.look" (defArgs sLook) (defBody sLook) (defScope sLook) .none kVLok dcLok pmLok anLok cdLok ctLok), slLok⟩)
    (cLok : PySem.W.codeIn K cdLok "Reader.look" = true)
    (kLok : PySem.W.keepIn K (.ref fLok) = true)
    (aTak : PySem.W.findIn K (.ref CR) "take" = some (some (.ref fTak)))
    (iTak : PySem.W.isFn K (.ref fTak) = true)
    (lTak : K.lookup fTak = some ⟨ocTak, odTak, .func (PySem.W.fnOf "take" "Reader.take" (defArgs sTake) (defBody sTake) (defScope sTake) .none kVTak dcTak pmTak anTak cdTak ctTak), slTak⟩)
    (cTak : PySem.W.codeIn K cdTak "Reader.take" = true)
    (kTak : PySem.W.keepIn K (.ref fTak) = true)
    (aNum : PySem.W.findIn K (.ref CR) "take_number" = some (some (.ref fNum)))
    (iNum : PySem.W.isFn K (.ref fNum) = true)
    (lNum : K.lookup fNum = some ⟨ocNum, odNum, .func (PySem.W.fnOf "take_number" "Reader.take_number" (defArgs sNumber) (defBody sNumber) (defScope sNumber) .none kVNum dcNum pmNum anNum cdNum ctNum), slNum⟩)
    (cNum : PySem.W.codeIn K cdNum "Reader.take_number" = true)
    (kNum : PySem.W.keepIn K (.ref fNum) = true)
    (aChr : PySem.W.findIn K (.ref CR) "take_character" = some (some (.ref fChr)))
    (iChr : PySem.W.isFn K (.ref fChr) = true)
    (lChr : K.lookup fChr = some ⟨ocChr, odChr, .func (PySem.W.fnOf "take_character" "Reader.take_character" (defArgs sChar) (defBody sChar) (defScope sChar) .none kVChr dcChr pmChr anChr cdChr ctChr), slChr⟩)
    (cChr : PySem.W.codeIn K cdChr "Reader.take_character" = true)
    (kChr : PySem.W.keepIn K (.ref fChr) = true)
    (aTkU : PySem.W.findIn K (.ref CA) "take_up" = some (some (.ref fTkU)))
    (iTkU : PySem.W.isFn K (.ref fTkU) = true)
    (lTkU : K.lookup fTkU = some ⟨ocTkU, odTkU, .func (PySem.W.fnOf "take_up" "Paragraphs.take_up" (defArgs sTkU) (defBody sTkU) (defScope sTkU) .none kVTkU dcTkU pmTkU anTkU cdTkU ctTkU), slTkU⟩)
    (cTkU : PySem.W.codeIn K cdTkU "Paragraphs.take_up" = true)
    (kTkU : PySem.W.keepIn K (.ref fTkU) = true)
    (aWIn : PySem.W.findIn K (.ref CA) "where_in" = some (some (.ref fWIn)))
    (iWIn : PySem.W.isFn K (.ref fWIn) = true)
    (lWIn : K.lookup fWIn = some ⟨ocWIn, odWIn, .func (PySem.W.fnOf "where_in" "Paragraphs.where_in" (defArgs sWIn) (defBody sWIn) (defScope sWIn) .none kVWIn dcWIn pmWIn anWIn cdWIn ctWIn), slWIn⟩)
    (cWIn : PySem.W.codeIn K cdWIn "Paragraphs.where_in" = true)
    (kWIn : PySem.W.keepIn K (.ref fWIn) = true)
    (aWCe : PySem.W.findIn K (.ref CA) "where_certain" = some (some (.ref fWCe)))
    (iWCe : PySem.W.isFn K (.ref fWCe) = true)
    (lWCe : K.lookup fWCe = some ⟨ocWCe, odWCe, .func (PySem.W.fnOf "where_certain" "Paragraphs.where_certain" (defArgs sWCer) (defBody sWCer) (defScope sWCer) .none kVWCe dcWCe pmWCe anWCe cdWCe ctWCe), slWCe⟩)
    (cWCe : PySem.W.codeIn K cdWCe "Paragraphs.where_certain" = true)
    (kWCe : PySem.W.keepIn K (.ref fWCe) = true)
    (aWAt : PySem.W.findIn K (.ref CA) "where_atom" = some (some (.ref fWAt)))
    (iWAt : PySem.W.isFn K (.ref fWAt) = true)
    (lWAt : K.lookup fWAt = some ⟨ocWAt, odWAt, .func (PySem.W.fnOf "where_atom" "Paragraphs.where_atom" (defArgs sWAtom) (defBody sWAtom) (defScope sWAtom) .none kVWAt dcWAt pmWAt anWAt cdWAt ctWAt), slWAt⟩)
    (cWAt : PySem.W.codeIn K cdWAt "Paragraphs.where_atom" = true)
    (kWAt : PySem.W.keepIn K (.ref fWAt) = true)
    (aFwd : PySem.W.findIn K (.ref CA) "go_forward" = some (some (.ref fFwd)))
    (iFwd : PySem.W.isFn K (.ref fFwd) = true)
    (lFwd : K.lookup fFwd = some ⟨ocFwd, odFwd, .func (PySem.W.fnOf "go_forward" "Paragraphs.go_forward" (defArgs sFwd) (defBody sFwd) (defScope sFwd) .none kVFwd dcFwd pmFwd anFwd cdFwd ctFwd), slFwd⟩)
    (cFwd : PySem.W.codeIn K cdFwd "Paragraphs.go_forward" = true)
    (kFwd : PySem.W.keepIn K (.ref fFwd) = true)
    (aBck : PySem.W.findIn K (.ref CA) "go_back" = some (some (.ref fBck)))
    (iBck : PySem.W.isFn K (.ref fBck) = true)
    (lBck : K.lookup fBck = some ⟨ocBck, odBck, .func (PySem.W.fnOf "go_back" "Paragraphs.go_back" (defArgs sBack) (defBody sBack) (defScope sBack) .none kVBck dcBck pmBck anBck cdBck ctBck), slBck⟩)
    (cBck : PySem.W.codeIn K cdBck "Paragraphs.go_back" = true)
    (kBck : PySem.W.keepIn K (.ref fBck) = true)
    (aSay : PySem.W.findIn K (.ref CA) "where_says" = some (some (.ref fSay)))
    (iSay : PySem.W.isFn K (.ref fSay) = true)
    (lSay : K.lookup fSay = some ⟨ocSay, odSay, .func (PySem.W.fnOf "where_says" "Paragraphs.where_says" (defArgs sSays) (defBody sSays) (defScope sSays) .none kVSay dcSay pmSay anSay cdSay ctSay), slSay⟩)
    (cSay : PySem.W.codeIn K cdSay "Paragraphs.where_says" = true)
    (kSay : PySem.W.keepIn K (.ref fSay) = true)
    (aWCu : PySem.W.findIn K (.ref CA) "where_cut" = some (some (.ref fWCu)))
    (iWCu : PySem.W.isFn K (.ref fWCu) = true)
    (lWCu : K.lookup fWCu = some ⟨ocWCu, odWCu, .func (PySem.W.fnOf "where_cut" "Paragraphs.where_cut" (defArgs sWCut) (defBody sWCut) (defScope sWCut) .none kVWCu dcWCu pmWCu anWCu cdWCu ctWCu), slWCu⟩)
    (cWCu : PySem.W.codeIn K cdWCu "Paragraphs.where_cut" = true)
    (kWCu : PySem.W.keepIn K (.ref fWCu) = true)
    (aIsCh : PySem.W.nsIn K mainGlobals "is_character" = some (some (.ref fIsCh)))
    (lIsCh : K.lookup fIsCh = some ⟨ocIsCh, odIsCh, .func (PySem.W.fnOf "is_character" "is_character" (defArgs sIsCh) (defBody sIsCh) (defScope sIsCh) .none kVIsCh dcIsCh pmIsCh anIsCh cdIsCh ctIsCh), slIsCh⟩)
    (cIsCh : PySem.W.codeIn K cdIsCh "is_character" = true)
    (kIsCh : PySem.W.keepIn K (.ref fIsCh) = true)
    (aFst : PySem.W.nsIn K mainGlobals "first_byte" = some (some (.ref fFst)))
    (lFst : K.lookup fFst = some ⟨ocFst, odFst, .func (PySem.W.fnOf "first_byte" "first_byte" (defArgs sFirst) (defBody sFirst) (defScope sFirst) .none kVFst dcFst pmFst anFst cdFst ctFst), slFst⟩)
    (cFst : PySem.W.codeIn K cdFst "first_byte" = true)
    (kFst : PySem.W.keepIn K (.ref fFst) = true)
    (aLds : PySem.W.nsIn K mainGlobals "leads_to" = some (some (.ref fLds)))
    (lLds : K.lookup fLds = some ⟨ocLds, odLds, .func (PySem.W.fnOf "leads_to" "leads_to" (defArgs sLeads) (defBody sLeads) (defScope sLeads) .none kVLds dcLds pmLds anLds cdLds ctLds), slLds⟩)
    (cLds : PySem.W.codeIn K cdLds "leads_to" = true)
    (kLds : PySem.W.keepIn K (.ref fLds) = true)
    (aRng : PySem.W.nsIn K mainGlobals "read_range" = some (some (.ref fRng)))
    (lRng : K.lookup fRng = some ⟨ocRng, odRng, .func (PySem.W.fnOf "read_range" "read_range" (defArgs sRange) (defBody sRange) (defScope sRange) .none kVRng dcRng pmRng anRng cdRng ctRng), slRng⟩)
    (cRng : PySem.W.codeIn K cdRng "read_range" = true)
    (kRng : PySem.W.keepIn K (.ref fRng) = true)
    (aRgs : PySem.W.nsIn K mainGlobals "read_ranges" = some (some (.ref fRgs)))
    (lRgs : K.lookup fRgs = some ⟨ocRgs, odRgs, .func (PySem.W.fnOf "read_ranges" "read_ranges" (defArgs sRanges) (defBody sRanges) (defScope sRanges) .none kVRgs dcRgs pmRgs anRgs cdRgs ctRgs), slRgs⟩)
    (cRgs : PySem.W.codeIn K cdRgs "read_ranges" = true)
    (kRgs : PySem.W.keepIn K (.ref fRgs) = true)
    (aCls : PySem.W.nsIn K mainGlobals "read_classes" = some (some (.ref fCls)))
    (lCls : K.lookup fCls = some ⟨ocCls, odCls, .func (PySem.W.fnOf "read_classes" "read_classes" (defArgs sClasses) (defBody sClasses) (defScope sClasses) .none kVCls dcCls pmCls anCls cdCls ctCls), slCls⟩)
    (cCls : PySem.W.codeIn K cdCls "read_classes" = true)
    (kCls : PySem.W.keepIn K (.ref fCls) = true)
    (aCer : PySem.W.nsIn K mainGlobals "read_certain" = some (some (.ref fCer)))
    (lCer : K.lookup fCer = some ⟨ocCer, odCer, .func (PySem.W.fnOf "read_certain" "read_certain" (defArgs sCertain) (defBody sCertain) (defScope sCertain) .none kVCer dcCer pmCer anCer cdCer ctCer), slCer⟩)
    (cCer : PySem.W.codeIn K cdCer "read_certain" = true)
    (kCer : PySem.W.keepIn K (.ref fCer) = true)
    (aAtm : PySem.W.nsIn K mainGlobals "read_atom" = some (some (.ref fAtm)))
    (lAtm : K.lookup fAtm = some ⟨ocAtm, odAtm, .func (PySem.W.fnOf "read_atom" "read_atom" (defArgs sAtom) (defBody sAtom) (defScope sAtom) .none kVAtm dcAtm pmAtm anAtm cdAtm ctAtm), slAtm⟩)
    (cAtm : PySem.W.codeIn K cdAtm "read_atom" = true)
    (kAtm : PySem.W.keepIn K (.ref fAtm) = true)
    (aItm : PySem.W.nsIn K mainGlobals "read_item" = some (some (.ref fItm)))
    (lItm : K.lookup fItm = some ⟨ocItm, odItm, .func (PySem.W.fnOf "read_item" "read_item" (defArgs sItem) (defBody sItem) (defScope sItem) .none kVItm dcItm pmItm anItm cdItm ctItm), slItm⟩)
    (cItm : PySem.W.codeIn K cdItm "read_item" = true)
    (kItm : PySem.W.keepIn K (.ref fItm) = true)
    (aBef : PySem.W.nsIn K mainGlobals "read_before" = some (some (.ref fBef)))
    (lBef : K.lookup fBef = some ⟨ocBef, odBef, .func (PySem.W.fnOf "read_before" "read_before" (defArgs sBefore) (defBody sBefore) (defScope sBefore) .none kVBef dcBef pmBef anBef cdBef ctBef), slBef⟩)
    (cBef : PySem.W.codeIn K cdBef "read_before" = true)
    (kBef : PySem.W.keepIn K (.ref fBef) = true)
    (aBeh : PySem.W.nsIn K mainGlobals "read_behind" = some (some (.ref fBeh)))
    (lBeh : K.lookup fBeh = some ⟨ocBeh, odBeh, .func (PySem.W.fnOf "read_behind" "read_behind" (defArgs sBehind) (defBody sBehind) (defScope sBehind) .none kVBeh dcBeh pmBeh anBeh cdBeh ctBeh), slBeh⟩)
    (cBeh : PySem.W.codeIn K cdBeh "read_behind" = true)
    (kBeh : PySem.W.keepIn K (.ref fBeh) = true)
    (aRul : PySem.W.nsIn K mainGlobals "read_rule" = some (some (.ref fRul)))
    (lRul : K.lookup fRul = some ⟨ocRul, odRul, .func (PySem.W.fnOf "read_rule" "read_rule" (defArgs sRule) (defBody sRule) (defScope sRule) .none kVRul dcRul pmRul anRul cdRul ctRul), slRul⟩)
    (cRul : PySem.W.codeIn K cdRul "read_rule" = true)
    (kRul : PySem.W.keepIn K (.ref fRul) = true)
    (aRls : PySem.W.nsIn K mainGlobals "read_rules" = some (some (.ref fRls)))
    (lRls : K.lookup fRls = some ⟨ocRls, odRls, .func (PySem.W.fnOf "read_rules" "read_rules" (defArgs sRules) (defBody sRules) (defScope sRules) .none kVRls dcRls pmRls anRls cdRls ctRls), slRls⟩)
    (cRls : PySem.W.codeIn K cdRls "read_rules" = true)
    (kRls : PySem.W.keepIn K (.ref fRls) = true)
    (aItB : PySem.W.nsIn K mainGlobals "items_beyond_bounds" = some (some (.ref fItB)))
    (lItB : K.lookup fItB = some ⟨ocItB, odItB, .func (PySem.W.fnOf "items_beyond_bounds" "items_beyond_bounds" (defArgs sItemsB) (defBody sItemsB) (defScope sItemsB) .none kVItB dcItB pmItB anItB cdItB ctItB), slItB⟩)
    (cItB : PySem.W.codeIn K cdItB "items_beyond_bounds" = true)
    (kItB : PySem.W.keepIn K (.ref fItB) = true)
    (aBey : PySem.W.nsIn K mainGlobals "beyond_bounds" = some (some (.ref fBey)))
    (lBey : K.lookup fBey = some ⟨ocBey, odBey, .func (PySem.W.fnOf "beyond_bounds" "beyond_bounds" (defArgs sBeyond) (defBody sBeyond) (defScope sBeyond) .none kVBey dcBey pmBey anBey cdBey ctBey), slBey⟩)
    (cBey : PySem.W.codeIn K cdBey "beyond_bounds" = true)
    (kBey : PySem.W.keepIn K (.ref fBey) = true)
    (aChk : PySem.W.nsIn K mainGlobals "checked_rules" = some (some (.ref fChk)))
    (lChk : K.lookup fChk = some ⟨ocChk, odChk, .func (PySem.W.fnOf "checked_rules" "checked_rules" (defArgs sChecked) (defBody sChecked) (defScope sChecked) .none kVChk dcChk pmChk anChk cdChk ctChk), slChk⟩)
    (cChk : PySem.W.codeIn K cdChk "checked_rules" = true)
    (kChk : PySem.W.keepIn K (.ref fChk) = true)
    (aPce : PySem.W.nsIn K mainGlobals "read_piece" = some (some (.ref fPce)))
    (lPce : K.lookup fPce = some ⟨ocPce, odPce, .func (PySem.W.fnOf "read_piece" "read_piece" (defArgs sPiece) (defBody sPiece) (defScope sPiece) .none kVPce dcPce pmPce anPce cdPce ctPce), slPce⟩)
    (cPce : PySem.W.codeIn K cdPce "read_piece" = true)
    (kPce : PySem.W.keepIn K (.ref fPce) = true)
    (aRow : PySem.W.nsIn K mainGlobals "read_row" = some (some (.ref fRow)))
    (lRow : K.lookup fRow = some ⟨ocRow, odRow, .func (PySem.W.fnOf "read_row" "read_row" (defArgs sRow) (defBody sRow) (defScope sRow) .none kVRow dcRow pmRow anRow cdRow ctRow), slRow⟩)
    (cRow : PySem.W.codeIn K cdRow "read_row" = true)
    (kRow : PySem.W.keepIn K (.ref fRow) = true)
    (aHlv : PySem.W.nsIn K mainGlobals "halves" = some (some (.ref fHlv)))
    (lHlv : K.lookup fHlv = some ⟨ocHlv, odHlv, .func (PySem.W.fnOf "halves" "halves" (defArgs sHalves) (defBody sHalves) (defScope sHalves) .none kVHlv dcHlv pmHlv anHlv cdHlv ctHlv), slHlv⟩)
    (cHlv : PySem.W.codeIn K cdHlv "halves" = true)
    (kHlv : PySem.W.keepIn K (.ref fHlv) = true)
    (aChs : PySem.W.nsIn K mainGlobals "characters_of" = some (some (.ref fChs)))
    (lChs : K.lookup fChs = some ⟨ocChs, odChs, .func (PySem.W.fnOf "characters_of" "characters_of" (defArgs sChars) (defBody sChars) (defScope sChars) .none kVChs dcChs pmChs anChs cdChs ctChs), slChs⟩)
    (cChs : PySem.W.codeIn K cdChs "characters_of" = true)
    (kChs : PySem.W.keepIn K (.ref fChs) = true)
    (aPrd : PySem.W.nsIn K mainGlobals "is_paired" = some (some (.ref fPrd)))
    (lPrd : K.lookup fPrd = some ⟨ocPrd, odPrd, .func (PySem.W.fnOf "is_paired" "is_paired" (defArgs sPaired) (defBody sPaired) (defScope sPaired) .none kVPrd dcPrd pmPrd anPrd cdPrd ctPrd), slPrd⟩)
    (cPrd : PySem.W.codeIn K cdPrd "is_paired" = true)
    (kPrd : PySem.W.keepIn K (.ref fPrd) = true)
    (aInR : PySem.W.nsIn K mainGlobals "in_ranges" = some (some (.ref fInR)))
    (lInR : K.lookup fInR = some ⟨ocInR, odInR, .func (PySem.W.fnOf "in_ranges" "in_ranges" (defArgs sInR) (defBody sInR) (defScope sInR) .none kVInR dcInR pmInR anInR cdInR ctInR), slInR⟩)
    (cInR : PySem.W.codeIn K cdInR "in_ranges" = true)
    (kInR : PySem.W.keepIn K (.ref fInR) = true)
    (aCut : PySem.W.nsIn K mainGlobals "cut_places" = some (some (.ref fCut)))
    (lCut : K.lookup fCut = some ⟨ocCut, odCut, .func (PySem.W.fnOf "cut_places" "cut_places" (defArgs sCuts) (defBody sCuts) (defScope sCuts) .none kVCut dcCut pmCut anCut cdCut ctCut), slCut⟩)
    (cCut : PySem.W.codeIn K cdCut "cut_places" = true)
    (kCut : PySem.W.keepIn K (.ref fCut) = true)
    (aCtB : PySem.W.nsIn K mainGlobals "cut_behind" = some (some (.ref fCtB)))
    (lCtB : K.lookup fCtB = some ⟨ocCtB, odCtB, .func (PySem.W.fnOf "cut_behind" "cut_behind" (defArgs sCutB) (defBody sCutB) (defScope sCutB) .none kVCtB dcCtB pmCtB anCtB cdCtB ctCtB), slCtB⟩)
    (cCtB : PySem.W.codeIn K cdCtB "cut_behind" = true)
    (kCtB : PySem.W.keepIn K (.ref fCtB) = true)
    (aStr : PySem.W.nsIn K mainGlobals "stretches" = some (some (.ref fStr)))
    (lStr : K.lookup fStr = some ⟨ocStr, odStr, .func (PySem.W.fnOf "stretches" "stretches" (defArgs sStr) (defBody sStr) (defScope sStr) .none kVStr dcStr pmStr anStr cdStr ctStr), slStr⟩)
    (cStr : PySem.W.codeIn K cdStr "stretches" = true)
    (kStr : PySem.W.keepIn K (.ref fStr) = true)
    (aHsS : PySem.W.nsIn K mainGlobals "has_segment" = some (some (.ref fHsS)))
    (lHsS : K.lookup fHsS = some ⟨ocHsS, odHsS, .func (PySem.W.fnOf "has_segment" "has_segment" (defArgs sHasS) (defBody sHasS) (defScope sHasS) .none kVHsS dcHsS pmHsS anHsS cdHsS ctHsS), slHsS⟩)
    (cHsS : PySem.W.codeIn K cdHsS "has_segment" = true)
    (kHsS : PySem.W.keepIn K (.ref fHsS) = true)
    (aTrm : PySem.W.nsIn K mainGlobals "without_blanks" = some (some (.ref fTrm)))
    (lTrm : K.lookup fTrm = some ⟨ocTrm, odTrm, .func (PySem.W.fnOf "without_blanks" "without_blanks" (defArgs sTrim) (defBody sTrim) (defScope sTrim) .none kVTrm dcTrm pmTrm anTrm cdTrm ctTrm), slTrm⟩)
    (cTrm : PySem.W.codeIn K cdTrm "without_blanks" = true)
    (kTrm : PySem.W.keepIn K (.ref fTrm) = true)
    (aSgs : PySem.W.nsIn K mainGlobals "segments_of" = some (some (.ref fSgs)))
    (lSgs : K.lookup fSgs = some ⟨ocSgs, odSgs, .func (PySem.W.fnOf "segments_of" "segments_of" (defArgs sSegs) (defBody sSegs) (defScope sSegs) .none kVSgs dcSgs pmSgs anSgs cdSgs ctSgs), slSgs⟩)
    (cSgs : PySem.W.codeIn K cdSgs "segments_of" = true)
    (kSgs : PySem.W.keepIn K (.ref fSgs) = true)
    (aLEd : PySem.W.nsIn K mainGlobals "line_end" = some (some (.ref fLEd)))
    (lLEd : K.lookup fLEd = some ⟨ocLEd, odLEd, .func (PySem.W.fnOf "line_end" "line_end" (defArgs sLEnd) (defBody sLEnd) (defScope sLEnd) .none kVLEd dcLEd pmLEd anLEd cdLEd ctLEd), slLEd⟩)
    (cLEd : PySem.W.codeIn K cdLEd "line_end" = true)
    (kLEd : PySem.W.keepIn K (.ref fLEd) = true)
    (aRaw : PySem.W.nsIn K mainGlobals "check_raw" = some (some (.ref fRaw)))
    (lRaw : K.lookup fRaw = some ⟨ocRaw, odRaw, .func (PySem.W.fnOf "check_raw" "check_raw" (defArgs sRaw) (defBody sRaw) (defScope sRaw) .none kVRaw dcRaw pmRaw anRaw cdRaw ctRaw), slRaw⟩)
    (cRaw : PySem.W.codeIn K cdRaw "check_raw" = true)
    (kRaw : PySem.W.keepIn K (.ref fRaw) = true)
    (aPRw : PySem.W.nsIn K mainGlobals "paragraph_row" = some (some (.ref fPRw)))
    (lPRw : K.lookup fPRw = some ⟨ocPRw, odPRw, .func (PySem.W.fnOf "paragraph_row" "paragraph_row" (defArgs sPRow) (defBody sPRow) (defScope sPRow) .none kVPRw dcPRw pmPRw anPRw cdPRw ctPRw), slPRw⟩)
    (cPRw : PySem.W.codeIn K cdPRw "paragraph_row" = true)
    (kPRw : PySem.W.keepIn K (.ref fPRw) = true)
    (aRLn : PySem.W.nsIn K mainGlobals "read_line" = some (some (.ref fRLn)))
    (lRLn : K.lookup fRLn = some ⟨ocRLn, odRLn, .func (PySem.W.fnOf "read_line" "read_line" (defArgs sRLine) (defBody sRLine) (defScope sRLine) .none kVRLn dcRLn pmRLn anRLn cdRLn ctRLn), slRLn⟩)
    (cRLn : PySem.W.codeIn K cdRLn "read_line" = true)
    (kRLn : PySem.W.keepIn K (.ref fRLn) = true)
    (aRDc : PySem.W.nsIn K mainGlobals "read_document" = some (some (.ref fRDc)))
    (lRDc : K.lookup fRDc = some ⟨ocRDc, odRDc, .func (PySem.W.fnOf "read_document" "read_document" (defArgs sRDoc) (defBody sRDoc) (defScope sRDoc) .none kVRDc dcRDc pmRDc anRDc cdRDc ctRDc), slRDc⟩)
    (cRDc : PySem.W.codeIn K cdRDc "read_document" = true)
    (kRDc : PySem.W.keepIn K (.ref fRDc) = true)
    (aByL : PySem.W.nsIn K mainGlobals "segments_by_line" = some (some (.ref fByL)))
    (lByL : K.lookup fByL = some ⟨ocByL, odByL, .func (PySem.W.fnOf "segments_by_line" "segments_by_line" (defArgs sByL) (defBody sByL) (defScope sByL) .none kVByL dcByL pmByL anByL cdByL ctByL), slByL⟩)
    (cByL : PySem.W.codeIn K cdByL "segments_by_line" = true)
    (kByL : PySem.W.keepIn K (.ref fByL) = true)
    (aNbd : PySem.W.nsIn K mainGlobals "numbered" = some (some (.ref fNbd)))
    (lNbd : K.lookup fNbd = some ⟨ocNbd, odNbd, .func (PySem.W.fnOf "numbered" "numbered" (defArgs sNbd) (defBody sNbd) (defScope sNbd) .none kVNbd dcNbd pmNbd anNbd cdNbd ctNbd), slNbd⟩)
    (cNbd : PySem.W.codeIn K cdNbd "numbered" = true)
    (kNbd : PySem.W.keepIn K (.ref fNbd) = true)
    (aRdA : PySem.W.nsIn K mainGlobals "read_as" = some (some (.ref fRdA)))
    (lRdA : K.lookup fRdA = some ⟨ocRdA, odRdA, .func (PySem.W.fnOf "read_as" "read_as" (defArgs sReadAs) (defBody sReadAs) (defScope sReadAs) .none kVRdA dcRdA pmRdA anRdA cdRdA ctRdA), slRdA⟩)
    (cRdA : PySem.W.codeIn K cdRdA "read_as" = true)
    (kRdA : PySem.W.keepIn K (.ref fRdA) = true)
    (aLaS : PySem.W.nsIn K mainGlobals "lines_and_segments" = some (some (.ref fLaS)))
    (lLaS : K.lookup fLaS = some ⟨ocLaS, odLaS, .func (PySem.W.fnOf "lines_and_segments" "lines_and_segments" (defArgs sLaS) (defBody sLaS) (defScope sLaS) .none kVLaS dcLaS pmLaS anLaS (.ref coLaS) ctLaS), slLaS⟩)
    (cLaS : PySem.W.codeIn K (.ref coLaS) "lines_and_segments" = true)
    (pcLaS : K.lookup coLaS = some ⟨ccLaS, cqLaS, .fields cvLaS, clLaS⟩)
    (tbLaS : cvLaS[11]? = some (.ref tLaS))
    (hdLaS : PySem.W.codeHdIn K coLaS tLaS = true)
    (kLaS : PySem.W.keepIn K (.ref fLaS) = true)
    (aDoS : PySem.W.nsIn K mainGlobals "document_segments" = some (some (.ref fDoS)))
    (lDoS : K.lookup fDoS = some ⟨ocDoS, odDoS, .func (PySem.W.fnOf "document_segments" "document_segments" (defArgs sDoS) (defBody sDoS) (defScope sDoS) .none kVDoS dcDoS pmDoS anDoS cdDoS ctDoS), slDoS⟩)
    (cDoS : PySem.W.codeIn K cdDoS "document_segments" = true)
    (kDoS : PySem.W.keepIn K (.ref fDoS) = true)
    (aSig : PySem.W.nsIn K mainGlobals "is_sign" = some (some (.ref fSig)))
    (lSig : K.lookup fSig = some ⟨ocSig, odSig, .func (PySem.W.fnOf "is_sign" "is_sign" (defArgs sSign) (defBody sSign) (defScope sSign) .none kVSig dcSig pmSig anSig cdSig ctSig), slSig⟩)
    (cSig : PySem.W.codeIn K cdSig "is_sign" = true)
    (kSig : PySem.W.keepIn K (.ref fSig) = true)
    (aWds : PySem.W.nsIn K mainGlobals "words_in" = some (some (.ref fWds)))
    (lWds : K.lookup fWds = some ⟨ocWds, odWds, .func (PySem.W.fnOf "words_in" "words_in" (defArgs sWords) (defBody sWords) (defScope sWords) .none kVWds dcWds pmWds anWds cdWds ctWds), slWds⟩)
    (cWds : PySem.W.codeIn K cdWds "words_in" = true)
    (kWds : PySem.W.keepIn K (.ref fWds) = true)
    (aFrm : PySem.W.nsIn K mainGlobals "form_of" = some (some (.ref fFrm)))
    (lFrm : K.lookup fFrm = some ⟨ocFrm, odFrm, .func (PySem.W.fnOf "form_of" "form_of" (defArgs sForm) (defBody sForm) (defScope sForm) .none kVFrm dcFrm pmFrm anFrm cdFrm ctFrm), slFrm⟩)
    (cFrm : PySem.W.codeIn K cdFrm "form_of" = true)
    (kFrm : PySem.W.keepIn K (.ref fFrm) = true)
    (aErl : PySem.W.nsIn K mainGlobals "of_earlier_form" = some (some (.ref fErl)))
    (lErl : K.lookup fErl = some ⟨ocErl, odErl, .func (PySem.W.fnOf "of_earlier_form" "of_earlier_form" (defArgs sEarl) (defBody sEarl) (defScope sEarl) .none kVErl dcErl pmErl anErl cdErl ctErl), slErl⟩)
    (cErl : PySem.W.codeIn K cdErl "of_earlier_form" = true)
    (kErl : PySem.W.keepIn K (.ref fErl) = true)
    (aSiz : PySem.W.nsIn K mainGlobals "check_size" = some (some (.ref fSiz)))
    (lSiz : K.lookup fSiz = some ⟨ocSiz, odSiz, .func (PySem.W.fnOf "check_size" "check_size" (defArgs sSize) (defBody sSize) (defScope sSize) .none kVSiz dcSiz pmSiz anSiz cdSiz ctSiz), slSiz⟩)
    (cSiz : PySem.W.codeIn K cdSiz "check_size" = true)
    (kSiz : PySem.W.keepIn K (.ref fSiz) = true)
    (aTop : PySem.W.nsIn K mainGlobals "segs" = some (some (.ref fTop)))
    (lTop : K.lookup fTop = some ⟨ocTop, odTop, .func (PySem.W.fnOf "segs" "segs" (defArgs sTopD) (defBody sTopD) (defScope sTopD) .none kVTop dcTop pmTop anTop cdTop ctTop), slTop⟩)
    (cTop : PySem.W.codeIn K cdTop "segs" = true)
    (kTop : PySem.W.keepIn K (.ref fTop) = true)
    (aCE : PySem.W.nsIn K mainGlobals "Refusal" = some (some (.ref CE)))
    (rdCE : PySem.W.readsIn K CE (.type "type") = true)
    (gaCE : PySem.W.specialIn K (.ref CE) "__getattribute__" = some (some (.builtin "type.__getattribute__")))
    (aRfI : PySem.W.findCls K (.ref CE) (.type "type") "__init__" = some (.val (.ref fRfI)))
    (lRfI : K.lookup fRfI = some ⟨ocRfI, odRfI, .func (PySem.W.fnOf "__init__" "Refusal.__init__" (defArgs sRefI) (defBody sRefI) (defScope sRefI) .none kVRfI dcRfI pmRfI anRfI cdRfI ctRfI), slRfI⟩)
    (cRfI : PySem.W.codeIn K cdRfI "Refusal.__init__" = true)
    (kRfI : PySem.W.keepIn K (.ref fRfI) = true)
    (eeCE : PySem.W.subIn K (.ref CE) (.type "BaseException") = some true)
    (iiCE : PySem.W.isClsIn K CE = true)
    (ttCE : PySem.W.typeIn K (.ref CE) = some (.type "type"))
    (aCF : PySem.W.nsIn K mainGlobals "Fault" = some (some (.ref CF)))
    (xCF : K.lookup CF = some (excClassObj nmCF qCF CF NCF bsCF [.ref CE, .type "ValueError", .type "Exception", .type "BaseException", .type "object"] true snCF subCF abCF colCF ddCF m0CF m1CF m2CF m3CF m5CF "ValueError.__new__"))
    (saCF : PySem.W.findIn K (.ref CF) "__setattr__" = some (some (.builtin "object.__setattr__")))
    (gaCF : PySem.W.findIn K (.ref CF) "__getattribute__" = some (some (.builtin "BaseException.__getattribute__")))
    (ggCF : PySem.W.findIn K (.ref CF) "__getattr__" = some none)
    (nnCF : PySem.W.findIn K (.ref CF) "number" = some none)
    (kkCF : PySem.W.keepIn K (.ref CF) = true)
    (eeCF : PySem.W.subIn K (.ref CF) (.type "BaseException") = some true)
    (ttCF : PySem.W.typeIn K (.ref CF) = some (.type "type"))
    (hdCF : PySem.W.hasDictIn K CF = true)
    (sECF : PySem.W.subIn K (.ref CF) (.ref CE) = some true)
    (aCG : PySem.W.nsIn K mainGlobals "FaultOfKind" = some (some (.ref CG)))
    (xCG : K.lookup CG = some (excClassObj nmCG qCG CG NCG bsCG [.ref CE, .type "ValueError", .type "Exception", .type "BaseException", .type "object"] true snCG subCG abCG colCG ddCG m0CG m1CG m2CG m3CG m5CG "ValueError.__new__"))
    (saCG : PySem.W.findIn K (.ref CG) "__setattr__" = some (some (.builtin "object.__setattr__")))
    (gaCG : PySem.W.findIn K (.ref CG) "__getattribute__" = some (some (.builtin "BaseException.__getattribute__")))
    (ggCG : PySem.W.findIn K (.ref CG) "__getattr__" = some none)
    (nnCG : PySem.W.findIn K (.ref CG) "number" = some none)
    (kkCG : PySem.W.keepIn K (.ref CG) = true)
    (eeCG : PySem.W.subIn K (.ref CG) (.type "BaseException") = some true)
    (ttCG : PySem.W.typeIn K (.ref CG) = some (.type "type"))
    (hdCG : PySem.W.hasDictIn K CG = true)
    (sECG : PySem.W.subIn K (.ref CG) (.ref CE) = some true)
    (aCT : PySem.W.nsIn K mainGlobals "TooLarge" = some (some (.ref CT)))
    (xCT : K.lookup CT = some (excClassObj nmCT qCT CT NCT bsCT [.ref CE, .type "ValueError", .type "Exception", .type "BaseException", .type "object"] true snCT subCT abCT colCT ddCT m0CT m1CT m2CT m3CT m5CT "ValueError.__new__"))
    (saCT : PySem.W.findIn K (.ref CT) "__setattr__" = some (some (.builtin "object.__setattr__")))
    (gaCT : PySem.W.findIn K (.ref CT) "__getattribute__" = some (some (.builtin "BaseException.__getattribute__")))
    (ggCT : PySem.W.findIn K (.ref CT) "__getattr__" = some none)
    (nnCT : PySem.W.findIn K (.ref CT) "number" = some none)
    (kkCT : PySem.W.keepIn K (.ref CT) = true)
    (eeCT : PySem.W.subIn K (.ref CT) (.type "BaseException") = some true)
    (ttCT : PySem.W.typeIn K (.ref CT) = some (.type "type"))
    (hdCT : PySem.W.hasDictIn K CT = true)
    (sECT : PySem.W.subIn K (.ref CT) (.ref CE) = some true)
    (aCB : PySem.W.nsIn K mainGlobals "BeyondBounds" = some (some (.ref CB)))
    (xCB : K.lookup CB = some (excClassObj nmCB qCB CB NCB bsCB [.ref CE, .type "ValueError", .type "Exception", .type "BaseException", .type "object"] true snCB subCB abCB colCB ddCB m0CB m1CB m2CB m3CB m5CB "ValueError.__new__"))
    (saCB : PySem.W.findIn K (.ref CB) "__setattr__" = some (some (.builtin "object.__setattr__")))
    (gaCB : PySem.W.findIn K (.ref CB) "__getattribute__" = some (some (.builtin "BaseException.__getattribute__")))
    (ggCB : PySem.W.findIn K (.ref CB) "__getattr__" = some none)
    (nnCB : PySem.W.findIn K (.ref CB) "number" = some none)
    (kkCB : PySem.W.keepIn K (.ref CB) = true)
    (eeCB : PySem.W.subIn K (.ref CB) (.type "BaseException") = some true)
    (ttCB : PySem.W.typeIn K (.ref CB) = some (.type "type"))
    (hdCB : PySem.W.hasDictIn K CB = true)
    (sECB : PySem.W.subIn K (.ref CB) (.ref CE) = some true)
    (npCF : PySem.W.findIn K (.ref CF) "place" = some none)
    (aFlI : PySem.W.findIn K (.ref CF) "__init__" = some (some (.ref fFlI)))
    (tFlI : PySem.W.typeIn K (.ref fFlI) = some (.type "function"))
    (lFlI : K.lookup fFlI = some ⟨ocFlI, odFlI, .func (PySem.W.fnOf "__init__" "Fault.__init__" (defArgs sFaultI) (defBody sFaultI) (defScope sFaultI) .none kVFlI dcFlI pmFlI anFlI cdFlI ctFlI), slFlI⟩)
    (cFlI : PySem.W.codeIn K cdFlI "Fault.__init__" = true)
    (kFlI : PySem.W.keepIn K (.ref fFlI) = true)
    (npCG : PySem.W.findIn K (.ref CG) "place" = some none)
    (nkCG : PySem.W.findIn K (.ref CG) "kind" = some none)
    (aFkI : PySem.W.findIn K (.ref CG) "__init__" = some (some (.ref fFkI)))
    (tFkI : PySem.W.typeIn K (.ref fFkI) = some (.type "function"))
    (lFkI : K.lookup fFkI = some ⟨ocFkI, odFkI, .func (PySem.W.fnOf "__init__" "FaultOfKind.__init__" (defArgs sFoKI) (defBody sFoKI) (defScope sFoKI) .none kVFkI dcFkI pmFkI anFkI cdFkI ctFkI), slFkI⟩)
    (cFkI : PySem.W.codeIn K cdFkI "FaultOfKind.__init__" = true)
    (kFkI : PySem.W.keepIn K (.ref fFkI) = true)
    (aBigI : PySem.W.findIn K (.ref CT) "__init__" = some (some (.ref fBigI)))
    (tBigI : PySem.W.typeIn K (.ref fBigI) = some (.type "function"))
    (lBigI : K.lookup fBigI = some ⟨ocBigI, odBigI, .func (PySem.W.fnOf "__init__" "TooLarge.__init__" (defArgs sBigI) (defBody sBigI) (defScope sBigI) .none kVBigI dcBigI pmBigI anBigI cdBigI ctBigI), slBigI⟩)
    (cBigI : PySem.W.codeIn K cdBigI "TooLarge.__init__" = true)
    (kBigI : PySem.W.keepIn K (.ref fBigI) = true)
    (aBBI : PySem.W.findIn K (.ref CB) "__init__" = some (some (.ref fBBI)))
    (tBBI : PySem.W.typeIn K (.ref fBBI) = some (.type "function"))
    (lBBI : K.lookup fBBI = some ⟨ocBBI, odBBI, .func (PySem.W.fnOf "__init__" "BeyondBounds.__init__" (defArgs sBeyI) (defBody sBeyI) (defScope sBeyI) .none kVBBI dcBBI pmBBI anBBI cdBBI ctBBI), slBBI⟩)
    (cBBI : PySem.W.codeIn K cdBBI "BeyondBounds.__init__" = true)
    (kBBI : PySem.W.keepIn K (.ref fBBI) = true)
    (iiCF : PySem.W.isClsIn K CF = true)
    (sFCF : PySem.W.subIn K (.ref CF) (.ref CF) = some true)
    (sFCG : PySem.W.subIn K (.ref CG) (.ref CF) = some false)
    (sFCT : PySem.W.subIn K (.ref CT) (.ref CF) = some false)
    (sFCB : PySem.W.subIn K (.ref CB) (.ref CF) = some false)
    (aSec : PySem.W.nsIn K mainGlobals "SECOND_BYTES" = some (some (.ref dS)))
    (lSec : K.lookup dS = some ⟨.type "dict", none, .dict #[⟨224, .int 224 e1, .ref tS1⟩, ⟨237, .int 237 e2, .ref tS2⟩, ⟨240, .int 240 e3, .ref tS3⟩, ⟨244, .int 244 e4, .ref tS4⟩] 4, #[]⟩)
    (mSec : (dS == sysModules) = false)
    (tup1 : K.lookup tS1 = some ⟨.type "tuple", w1, .seq #[.int 160 x1, .int 191 y1] z1, v1⟩)
    (tup2 : K.lookup tS2 = some ⟨.type "tuple", w2, .seq #[.int 128 x2, .int 159 y2] z2, v2⟩)
    (tup3 : K.lookup tS3 = some ⟨.type "tuple", w3, .seq #[.int 144 x3, .int 191 y3] z3, v3⟩)
    (tup4 : K.lookup tS4 = some ⟨.type "tuple", w4, .seq #[.int 128 x4, .int 143 y4] z4, v4⟩)
    (aBP : PySem.W.nsIn K mainGlobals "BLANK_PIECE" = some (some (.ref dBP)))
    (tupBP : K.lookup dBP = some ⟨.type "tuple", wBP, .seq #[.int 0 xBP, .int 32 yBP] zBP, vBP⟩)
    (aSg : PySem.W.nsIn K mainGlobals "SIGNS" = some (some (.ref dSg)))
    (lSg : K.lookup dSg = some ⟨.type "tuple", wSg, .seq #[.ref g1, .ref g2, .ref g3, .ref g4, .ref g5, .ref g6, .ref g7, .ref g8, .ref g9] zSg, vSg⟩)
    (tupG1 : K.lookup g1 = some ⟨.type "tuple", wG1, .seq #[.int 33 xG1, .int 47 yG1] zG1, vG1⟩)
    (tupG2 : K.lookup g2 = some ⟨.type "tuple", wG2, .seq #[.int 58 xG2, .int 64 yG2] zG2, vG2⟩)
    (tupG3 : K.lookup g3 = some ⟨.type "tuple", wG3, .seq #[.int 91 xG3, .int 96 yG3] zG3, vG3⟩)
    (tupG4 : K.lookup g4 = some ⟨.type "tuple", wG4, .seq #[.int 123 xG4, .int 126 yG4] zG4, vG4⟩)
    (tupG5 : K.lookup g5 = some ⟨.type "tuple", wG5, .seq #[.int 161 xG5, .int 191 yG5] zG5, vG5⟩)
    (tupG6 : K.lookup g6 = some ⟨.type "tuple", wG6, .seq #[.int 215 xG6, .int 215 yG6] zG6, vG6⟩)
    (tupG7 : K.lookup g7 = some ⟨.type "tuple", wG7, .seq #[.int 247 xG7, .int 247 yG7] zG7, vG7⟩)
    (tupG8 : K.lookup g8 = some ⟨.type "tuple", wG8, .seq #[.int 8208 xG8, .int 8303 yG8] zG8, vG8⟩)
    (tupG9 : K.lookup g9 = some ⟨.type "tuple", wG9, .seq #[.int 12288 xG9, .int 12351 yG9] zG9, vG9⟩)
    (toLaS : h.get? tLaS = some noRows)
    (tnLaS : K.lookup tLaS = none) :
    ∃ (fd : FuncData) (cs : List (Addr × Addr)) (sp : Sp), (∀ p ∈ cs, h.get? p.2 = some noRows) ∧ (∀ p ∈ cs, K.lookup p.2 = none) ∧ (∀ p ∈ cs, PySem.W.CodeHd h p.1 p.2) ∧ (∀ (s : Shared) (us : List Value), us.length = (["t", "d"] : List Str).length → BindsTo s fd ⟨us, []⟩ ((["t", "d"] : List Str).zip us)) ∧ (∀ (H : Hp) (xs : List V) (a : PySem.W.Codec.denoteAll PySem.Challenge.rw_segmentrules_s06_segs.args), (∀ p ∈ cs, H p.2 = some (.tbl #[])) → PySem.W.Codec.withinAll PySem.Challenge.rw_segmentrules_s06_segs.args a = true → PySem.W.Codec.app PySem.Challenge.rw_segmentrules_s06_segs.args PySem.Challenge.rw_segmentrules_s06_segs.asked a = true → DwAll K H xs (PySem.W.Codec.encAll PySem.Challenge.rw_segmentrules_s06_segs.args a) → sp xs H (fun v H' => Dw K H' v (PySem.Challenge.rw_segmentrules_s06_segs.ret.enc (PySem.W.Codec.app PySem.Challenge.rw_segmentrules_s06_segs.args PySem.Challenge.rw_segmentrules_s06_segs.f a))) fun _ _ _ => False) ∧ ∀ base : Heap, K.In base → base.Ns mainGlobals mg → (∀ p ∈ cs, LamX.TabB base mg p.1 p.2) → FnOk P w K mg base CX0 16 fa fd ["t", "d"] sp := by
  have e := hfa.symm.trans (PySem.W.mg_of X G aTop)
  cases e
  have FIsCh := fun_mk (st := sIsCh) lIsCh cIsCh kIsCh
  have FFst := fun_mk (st := sFirst) lFst cFst kFst
  have FLds := fun_mk (st := sLeads) lLds cLds kLds
  have FRng := fun_mk (st := sRange) lRng cRng kRng
  have FRgs := fun_mk (st := sRanges) lRgs cRgs kRgs
  have FCls := fun_mk (st := sClasses) lCls cCls kCls
  have FCer := fun_mk (st := sCertain) lCer cCer kCer
  have FAtm := fun_mk (st := sAtom) lAtm cAtm kAtm
  have FItm := fun_mk (st := sItem) lItm cItm kItm
  have FBef := fun_mk (st := sBefore) lBef cBef kBef
  have FBeh := fun_mk (st := sBehind) lBeh cBeh kBeh
  have FRul := fun_mk (st := sRule) lRul cRul kRul
  have FRls := fun_mk (st := sRules) lRls cRls kRls
  have FItB := fun_mk (st := sItemsB) lItB cItB kItB
  have FBey := fun_mk (st := sBeyond) lBey cBey kBey
  have FChk := fun_mk (st := sChecked) lChk cChk kChk
  have FPce := fun_mk (st := sPiece) lPce cPce kPce
  have FRow := fun_mk (st := sRow) lRow cRow kRow
  have FHlv := fun_mk (st := sHalves) lHlv cHlv kHlv
  have FChs := fun_mk (st := sChars) lChs cChs kChs
  have FPrd := fun_mk (st := sPaired) lPrd cPrd kPrd
  have FInR := fun_mk (st := sInR) lInR cInR kInR
  have FCut := fun_mk (st := sCuts) lCut cCut kCut
  have FCtB := fun_mk (st := sCutB) lCtB cCtB kCtB
  have FStr := fun_mk (st := sStr) lStr cStr kStr
  have FHsS := fun_mk (st := sHasS) lHsS cHsS kHsS
  have FTrm := fun_mk (st := sTrim) lTrm cTrm kTrm
  have FSgs := fun_mk (st := sSegs) lSgs cSgs kSgs
  have FLEd := fun_mk (st := sLEnd) lLEd cLEd kLEd
  have FRaw := fun_mk (st := sRaw) lRaw cRaw kRaw
  have FPRw := fun_mk (st := sPRow) lPRw cPRw kPRw
  have FRLn := fun_mk (st := sRLine) lRLn cRLn kRLn
  have FRDc := fun_mk (st := sRDoc) lRDc cRDc kRDc
  have FByL := fun_mk (st := sByL) lByL cByL kByL
  have FNbd := fun_mk (st := sNbd) lNbd cNbd kNbd
  have FRdA := fun_mk (st := sReadAs) lRdA cRdA kRdA
  have FLaS : FunC K "lines_and_segments" "lines_and_segments" sLaS fLaS _ coLaS := ⟨_, _, _, _, _, _, _, _, rfl, lLaS, cLaS⟩
  have ELaS := fun_mk (st := sLaS) lLaS cLaS kLaS
  have FDoS := fun_mk (st := sDoS) lDoS cDoS kDoS
  have FSig := fun_mk (st := sSign) lSig cSig kSig
  have FWds := fun_mk (st := sWords) lWds cWds kWds
  have FFrm := fun_mk (st := sForm) lFrm cFrm kFrm
  have FErl := fun_mk (st := sEarl) lErl cErl kErl
  have FSiz := fun_mk (st := sSize) lSiz cSiz kSiz
  have FTop := fun_mk (st := sTopD) lTop cTop kTop
  have FEnd := fun_mk (st := sEnded) lEnd cEnd kEnd
  have FLok := fun_mk (st := sLook) lLok cLok kLok
  have FTak := fun_mk (st := sTake) lTak cTak kTak
  have FNum := fun_mk (st := sNumber) lNum cNum kNum
  have FChr := fun_mk (st := sChar) lChr cChr kChr
  have FTkU := fun_mk (st := sTkU) lTkU cTkU kTkU
  have FWIn := fun_mk (st := sWIn) lWIn cWIn kWIn
  have FWCe := fun_mk (st := sWCer) lWCe cWCe kWCe
  have FWAt := fun_mk (st := sWAtom) lWAt cWAt kWAt
  have FFwd := fun_mk (st := sFwd) lFwd cFwd kFwd
  have FBck := fun_mk (st := sBack) lBck cBck kBck
  have FSay := fun_mk (st := sSays) lSay cSay kSay
  have FWCu := fun_mk (st := sWCut) lWCu cWCu kWCu
  have FRdI := fun_mk (st := sRdI) lRdI cRdI kRdI
  have FItI := fun_mk (st := sItemI) lItI cItI kItI
  have FRuI := fun_mk (st := sRuleI) lRuI cRuI kRuI
  have FStI := fun_mk (st := sSetI) lStI cStI kStI
  have FPaI := fun_mk (st := sPaI) lPaI cPaI kPaI
  have FRwI := fun_mk (st := sRowI) lRwI cRwI kRwI
  have FPtI := fun_mk (st := sPartI) lPtI cPtI kPtI
  have FLnI := fun_mk (st := sLineI) lLnI cLnI kLnI
  have FFkI := fun_mk (st := sFoKI) lFkI cFkI kFkI
  have FFlI := fun_mk (st := sFaultI) lFlI cFlI kFlI
  have FRfI := fun_mk (st := sRefI) lRfI cRfI kRfI
  have FBigI := fun_mk (st := sBigI) lBigI cBigI kBigI
  have FBBI := fun_mk (st := sBeyI) lBBI cBBI kBBI
  have bIsCh_ := FIsCh.binds (ps := ["number"]) fun _ _ _ _ _ _ us hl => match us, hl with | [_], _ => rfl
  have bFst_ := FFst.binds (ps := ["byte"]) fun _ _ _ _ _ _ us hl => match us, hl with | [_], _ => rfl
  have bLds_ := FLds.binds (ps := ["number", "least", "most"]) fun _ _ _ _ _ _ us hl => match us, hl with | [_, _, _], _ => rfl
  have bRng_ := FRng.binds (ps := ["reader", "least"]) fun _ _ _ _ _ _ us hl => match us, hl with | [_, _], _ => rfl
  have bRgs_ := FRgs.binds (ps := ["reader"]) fun _ _ _ _ _ _ us hl => match us, hl with | [_], _ => rfl
  have bCls_ := FCls.binds (ps := ["reader"]) fun _ _ _ _ _ _ us hl => match us, hl with | [_], _ => rfl
  have bCer_ := FCer.binds (ps := ["reader"]) fun _ _ _ _ _ _ us hl => match us, hl with | [_], _ => rfl
  have bAtm_ := FAtm.binds (ps := ["reader", "known"]) fun _ _ _ _ _ _ us hl => match us, hl with | [_, _], _ => rfl
  have bItm_ := FItm.binds (ps := ["reader", "known"]) fun _ _ _ _ _ _ us hl => match us, hl with | [_, _], _ => rfl
  have bBef_ := FBef.binds (ps := ["reader", "known"]) fun _ _ _ _ _ _ us hl => match us, hl with | [_, _], _ => rfl
  have bBeh_ := FBeh.binds (ps := ["reader", "known"]) fun _ _ _ _ _ _ us hl => match us, hl with | [_, _], _ => rfl
  have bRul_ := FRul.binds (ps := ["reader", "known"]) fun _ _ _ _ _ _ us hl => match us, hl with | [_, _], _ => rfl
  have bRls_ := FRls.binds (ps := ["text"]) fun _ _ _ _ _ _ us hl => match us, hl with | [_], _ => rfl
  have bItB_ := FItB.binds (ps := ["items"]) fun _ _ _ _ _ _ us hl => match us, hl with | [_], _ => rfl
  have bBey_ := FBey.binds (ps := ["rule_set"]) fun _ _ _ _ _ _ us hl => match us, hl with | [_], _ => rfl
  have bChk_ := FChk.binds (ps := ["text"]) fun _ _ _ _ _ _ us hl => match us, hl with | [_], _ => rfl
  have bPce_ := FPce.binds (ps := ["reader"]) fun _ _ _ _ _ _ us hl => match us, hl with | [_], _ => rfl
  have bRow_ := FRow.binds (ps := ["text", "first", "behind"]) fun _ _ _ _ _ _ us hl => match us, hl with | [_, _, _], _ => rfl
  have bHlv_ := FHlv.binds (ps := ["pieces"]) fun _ _ _ _ _ _ us hl => match us, hl with | [_], _ => rfl
  have bChs_ := FChs.binds (ps := ["row"]) fun _ _ _ _ _ _ us hl => match us, hl with | [_], _ => rfl
  have bPrd_ := FPrd.binds (ps := ["row"]) fun _ _ _ _ _ _ us hl => match us, hl with | [_], _ => rfl
  have bInR_ := FInR.binds (ps := ["number", "ranges"]) fun _ _ _ _ _ _ us hl => match us, hl with | [_, _], _ => rfl
  have bCut_ := FCut.binds (ps := ["paragraphs", "rule_set"]) fun _ _ _ _ _ _ us hl => match us, hl with | [_, _], _ => rfl
  have bCtB_ := FCtB.binds (ps := ["pieces", "place"]) fun _ _ _ _ _ _ us hl => match us, hl with | [_, _], _ => rfl
  have bStr_ := FStr.binds (ps := ["row", "cuts"]) fun _ _ _ _ _ _ us hl => match us, hl with | [_, _], _ => rfl
  have bHsS_ := FHsS.binds (ps := ["stretch"]) fun _ _ _ _ _ _ us hl => match us, hl with | [_], _ => rfl
  have bTrm_ := FTrm.binds (ps := ["row", "stretch"]) fun _ _ _ _ _ _ us hl => match us, hl with | [_, _], _ => rfl
  have bSgs_ := FSgs.binds (ps := ["rows", "rule_set"]) fun _ _ _ _ _ _ us hl => match us, hl with | [_, _], _ => rfl
  have bLEd_ := FLEd.binds (ps := ["text", "first"]) fun _ _ _ _ _ _ us hl => match us, hl with | [_, _], _ => rfl
  have bRaw_ := FRaw.binds (ps := ["text", "first", "behind"]) fun _ _ _ _ _ _ us hl => match us, hl with | [_, _, _], _ => rfl
  have bPRw_ := FPRw.binds (ps := ["text", "first", "behind"]) fun _ _ _ _ _ _ us hl => match us, hl with | [_, _, _], _ => rfl
  have bRLn_ := FRLn.binds (ps := ["text", "first", "behind"]) fun _ _ _ _ _ _ us hl => match us, hl with | [_, _, _], _ => rfl
  have bRDc_ := FRDc.binds (ps := ["text"]) fun _ _ _ _ _ _ us hl => match us, hl with | [_], _ => rfl
  have bByL_ := FByL.binds (ps := ["lines", "rule_set"]) fun _ _ _ _ _ _ us hl => match us, hl with | [_, _], _ => rfl
  have bNbd_ := FNbd.binds (ps := ["by_line"]) fun _ _ _ _ _ _ us hl => match us, hl with | [_], _ => rfl
  have bRdA_ := FRdA.binds (ps := ["kind", "read"]) fun _ _ _ _ _ _ us hl => match us, hl with | [_, _], _ => rfl
  have bLaS_ := ELaS.binds (ps := ["t", "d"]) fun _ _ _ _ _ _ us hl => match us, hl with | [_, _], _ => rfl
  have bDoS_ := FDoS.binds (ps := ["t", "d"]) fun _ _ _ _ _ _ us hl => match us, hl with | [_, _], _ => rfl
  have bSig_ := FSig.binds (ps := ["number"]) fun _ _ _ _ _ _ us hl => match us, hl with | [_], _ => rfl
  have bWds_ := FWds.binds (ps := ["pieces"]) fun _ _ _ _ _ _ us hl => match us, hl with | [_], _ => rfl
  have bFrm_ := FFrm.binds (ps := ["pieces"]) fun _ _ _ _ _ _ us hl => match us, hl with | [_], _ => rfl
  have bErl_ := FErl.binds (ps := ["rows"]) fun _ _ _ _ _ _ us hl => match us, hl with | [_], _ => rfl
  have bSiz_ := FSiz.binds (ps := ["text", "most"]) fun _ _ _ _ _ _ us hl => match us, hl with | [_, _], _ => rfl
  have bTop_ := FTop.binds (ps := ["t", "d"]) fun _ _ _ _ _ _ us hl => match us, hl with | [_, _], _ => rfl
  have bEnd_ := FEnd.binds (ps := ["self"]) fun _ _ _ _ _ _ us hl => match us, hl with | [_], _ => rfl
  have bLok_ := FLok.binds (ps := ["self"]) fun _ _ _ _ _ _ us hl => match us, hl with | [_], _ => rfl
  have bTak_ := FTak.binds (ps := ["self", "wanted"]) fun _ _ _ _ _ _ us hl => match us, hl with | [_, _], _ => rfl
  have bNum_ := FNum.binds (ps := ["self", "ranges"]) fun _ _ _ _ _ _ us hl => match us, hl with | [_, _], _ => rfl
  have bChr_ := FChr.binds (ps := ["self"]) fun _ _ _ _ _ _ us hl => match us, hl with | [_], _ => rfl
  have bTkU_ := FTkU.binds (ps := ["self", "characters", "first"]) fun _ _ _ _ _ _ us hl => match us, hl with | [_, _, _], _ => rfl
  have bWIn_ := FWIn.binds (ps := ["self", "ranges"]) fun _ _ _ _ _ _ us hl => match us, hl with | [_, _], _ => rfl
  have bWCe_ := FWCe.binds (ps := ["self", "characters"]) fun _ _ _ _ _ _ us hl => match us, hl with | [_, _], _ => rfl
  have bWAt_ := FWAt.binds (ps := ["self", "item"]) fun _ _ _ _ _ _ us hl => match us, hl with | [_, _], _ => rfl
  have bFwd_ := FFwd.binds (ps := ["self", "places", "item"]) fun _ _ _ _ _ _ us hl => match us, hl with | [_, _, _], _ => rfl
  have bBck_ := FBck.binds (ps := ["self", "places", "item"]) fun _ _ _ _ _ _ us hl => match us, hl with | [_, _, _], _ => rfl
  have bSay_ := FSay.binds (ps := ["self", "rule"]) fun _ _ _ _ _ _ us hl => match us, hl with | [_, _], _ => rfl
  have bWCu_ := FWCu.binds (ps := ["self", "rules"]) fun _ _ _ _ _ _ us hl => match us, hl with | [_, _], _ => rfl
  have bRdI_ := FRdI.binds (ps := ["self", "text", "first", "behind"]) fun _ _ _ _ _ _ us hl => match us, hl with | [_, _, _, _], _ => rfl
  have bItI_ := FItI.binds (ps := ["self", "kind", "atom", "least", "most"]) fun _ _ _ _ _ _ us hl => match us, hl with | [_, _, _, _, _], _ => rfl
  have bRuI_ := FRuI.binds (ps := ["self", "cuts", "from_beginning", "before", "behind", "to_end"]) fun _ _ _ _ _ _ us hl => match us, hl with | [_, _, _, _, _, _], _ => rfl
  have bStI_ := FStI.binds (ps := ["self", "classes", "rules"]) fun _ _ _ _ _ _ us hl => match us, hl with | [_, _, _], _ => rfl
  have bPaI_ := FPaI.binds (ps := ["self", "paragraphs", "classes"]) fun _ _ _ _ _ _ us hl => match us, hl with | [_, _, _], _ => rfl
  have bRwI_ := FRwI.binds (ps := ["self", "text", "pieces", "starts"]) fun _ _ _ _ _ _ us hl => match us, hl with | [_, _, _, _], _ => rfl
  have bPtI_ := FPtI.binds (ps := ["self", "row", "first", "behind"]) fun _ _ _ _ _ _ us hl => match us, hl with | [_, _, _, _], _ => rfl
  have bLnI_ := FLnI.binds (ps := ["self", "text", "row"]) fun _ _ _ _ _ _ us hl => match us, hl with | [_, _, _], _ => rfl
  have bFlI_ := FFlI.binds (ps := ["self", "place"]) fun _ _ _ _ _ _ us hl => match us, hl with | [_, _], _ => rfl
  have bRfI_ := FRfI.binds (ps := ["self", "number"]) fun _ _ _ _ _ _ us hl => match us, hl with | [_, _], _ => rfl
  have bFkI_ := FFkI.binds (ps := ["self", "kind", "place"]) fun _ _ _ _ _ _ us hl => match us, hl with | [_, _, _], _ => rfl
  have bBigI_ := FBigI.binds (ps := ["self"]) fun _ _ _ _ _ _ us hl => match us, hl with | [_], _ => rfl
  have bBBI_ := FBBI.binds (ps := ["self"]) fun _ _ _ _ _ _ us hl => match us, hl with | [_], _ => rfl
  have TC : TxC mg := ⟨PySem.W.mg_none_of X G blen, PySem.W.mg_none_of X G bany, PySem.W.mg_none_of X G brange, ⟨_, PySem.W.mg_of X G nNO_BYTE⟩, ⟨_, PySem.W.mg_of X G nLAST_NUMBER⟩, ⟨_, PySem.W.mg_of X G nNOUGHT⟩, ⟨_, PySem.W.mg_of X G nNINE⟩⟩
  have TN : TxN mg := ⟨PySem.W.mg_none_of X G blen, PySem.W.mg_none_of X G bany, PySem.W.mg_none_of X G blist, ⟨_, PySem.W.mg_of X G nLAST_NUMBER⟩, ⟨_, PySem.W.mg_of X G nBLANK⟩, ⟨_, PySem.W.mg_of X G nPLUS⟩, ⟨_, PySem.W.mg_of X G nHYPHEN⟩, ⟨_, PySem.W.mg_of X G nDOT⟩, ⟨_, PySem.W.mg_of X G nLINE_FEED⟩, ⟨_, PySem.W.mg_of X G nQUOTE⟩, ⟨_, PySem.W.mg_of X G nDOLLAR⟩, ⟨_, PySem.W.mg_of X G nPERCENT⟩, ⟨_, PySem.W.mg_of X G nSTAR⟩, ⟨_, PySem.W.mg_of X G nCARET⟩, ⟨_, PySem.W.mg_of X G nBAR⟩, ⟨_, PySem.W.mg_of X G nANY⟩, ⟨_, PySem.W.mg_of X G nOF_CLASS⟩, ⟨_, PySem.W.mg_of X G nCERTAIN⟩, ⟨_, PySem.W.mg_of X G nLAST_CLASS⟩, ⟨_, PySem.W.mg_of X G nMOST_TIMES⟩, ⟨_, PySem.W.mg_of X G nMOST_RULES⟩, ⟨_, PySem.W.mg_of X G nMOST_RANGES⟩, ⟨_, PySem.W.mg_of X G nMOST_ITEMS⟩, ⟨_, PySem.W.mg_of X G nMOST_CHARACTERS_rulestext⟩⟩
  have TR : TxR K mg CR := ⟨⟨pgCR, hdCR, poCR, saCR⟩, noCRtext, noCRplace, noCRbehind⟩
  have TI : TxI K CI := ⟨⟨pgCI, hdCI, poCI, saCI⟩, noCIkind, noCIatom, noCIleast, noCImost⟩
  have TU : TxU K CU := ⟨⟨pgCU, hdCU, poCU, saCU⟩, noCUcuts, noCUfrom_beginning, noCUbefore, noCUbehind, noCUto_end⟩
  have TP : TxP K CS := ⟨⟨pgCS, hdCS, poCS, saCS⟩, noCSclasses, noCSrules⟩
  have oCF : OexC K CF := ⟨⟨_, _, _, _, _, _, _, _, _, _, _, _, _, _, _, xCF, (by show PySem.HandSPX.refsVE [.type "ValueError", .type "Exception", .type "BaseException", .type "object"] = true; decide +kernel)⟩, saCF, eeCF, ttCF, kkCF⟩
  have kCF_ : ErrK K CE CF := ⟨exm_of eeCE iiCE ttCE sECF, ⟨gaCF, ggCF, eeCF, hdCF⟩, nnCF⟩
  have oCG : OexC K CG := ⟨⟨_, _, _, _, _, _, _, _, _, _, _, _, _, _, _, xCG, (by show PySem.HandSPX.refsVE [.type "ValueError", .type "Exception", .type "BaseException", .type "object"] = true; decide +kernel)⟩, saCG, eeCG, ttCG, kkCG⟩
  have kCG_ : ErrK K CE CG := ⟨exm_of eeCE iiCE ttCE sECG, ⟨gaCG, ggCG, eeCG, hdCG⟩, nnCG⟩
  have oCT : OexC K CT := ⟨⟨_, _, _, _, _, _, _, _, _, _, _, _, _, _, _, xCT, (by show PySem.HandSPX.refsVE [.type "ValueError", .type "Exception", .type "BaseException", .type "object"] = true; decide +kernel)⟩, saCT, eeCT, ttCT, kkCT⟩
  have kCT_ : ErrK K CE CT := ⟨exm_of eeCE iiCE ttCE sECT, ⟨gaCT, ggCT, eeCT, hdCT⟩, nnCT⟩
  have oCB : OexC K CB := ⟨⟨_, _, _, _, _, _, _, _, _, _, _, _, _, _, _, xCB, (by show PySem.HandSPX.refsVE [.type "ValueError", .type "Exception", .type "BaseException", .type "object"] = true; decide +kernel)⟩, saCB, eeCB, ttCB, kkCB⟩
  have kCB_ : ErrK K CE CB := ⟨exm_of eeCE iiCE ttCE sECB, ⟨gaCB, ggCB, eeCB, hdCB⟩, nnCB⟩
  have TF : TxF K mg CF := ⟨oCF, kCF_.xf, npCF, nnCF, PySem.W.mg_of X G aCF⟩
  have TRf : TxRef K mg CE fRfI := ⟨PySem.W.mg_of X G aCE, rdCE, gaCE, aRfI, kRfI⟩
  have gE : mg "Refusal" = some (.ref CE) := PySem.W.mg_of X G aCE
  have eT := kCT_
  have eF := kCF_
  have eB := kCB_
  have eG := kCG_
  have sF : Says2 K CF CF true := ⟨exm_of eeCF iiCF ttCF sFCF⟩
  have sB : Says2 K CF CB false := ⟨exm_of eeCF iiCF ttCF sFCB⟩
  have TFk : TxFk K mg CG := ⟨oCG, kCG_.xf, npCG, nkCG, nnCG, PySem.W.mg_of X G aCG⟩
  have TKd : TxKd mg := ⟨⟨_, PySem.W.mg_of X G nNO_RULES⟩, ⟨_, PySem.W.mg_of X G nNO_DOCUMENT⟩, ⟨_, PySem.W.mg_of X G nMOST_RULES_BYTES⟩, ⟨_, PySem.W.mg_of X G nMOST_DOCUMENT_BYTES⟩⟩
  have TD : TxDc mg := ⟨⟨_, PySem.W.mg_of X G nMOST_CHARACTERS_documenttext⟩, ⟨_, PySem.W.mg_of X G nMOST_LINES⟩, ⟨_, PySem.W.mg_of X G nRAW_SIGN⟩, ⟨_, PySem.W.mg_of X G nPARAGRAPH_SIGN⟩⟩
  have TLn : TxLn K CL := ⟨⟨pgCL, hdCL, poCL, saCL⟩, noCLtext, noCLrow⟩
  have RA : ReadAs K mg := ⟨_, _, PySem.W.mg_of X G aRdA, kRdA, FRdA, bRdA_⟩
  have MOST : ∃ t, mg "MOST_RULES_BYTES" = some (.int 65536 t) := ⟨_, PySem.W.mg_of X G nMOST_RULES_BYTES⟩
  have TW : TxW mg := ⟨⟨_, PySem.W.mg_of X G nLEFT_BRACE⟩, ⟨_, PySem.W.mg_of X G nRIGHT_BRACE⟩, ⟨_, PySem.W.mg_of X G nCHARACTER⟩, ⟨_, PySem.W.mg_of X G nOPENS⟩, ⟨_, PySem.W.mg_of X G nCLOSES⟩, ⟨_, PySem.W.mg_of X G nLAST_TAG⟩, ⟨_, PySem.W.mg_of X G nMOST_PIECES⟩⟩
  have TO : TxO K CW := ⟨⟨pgCW, hdCW, poCW, saCW⟩, noCWtext, noCWpieces, noCWstarts⟩
  have TA : TxA K mg CA := ⟨⟨pgCA, hdCA, poCA, saCA⟩, noCAbeginnings, noCAof_character, noCAof_class, noCAends, noCAeverywhere, PySem.W.mg_none_of X G benumerate, PySem.W.mg_none_of X G brange, PySem.W.mg_none_of X G breversed⟩
  have TQ : TxPt K CQ := ⟨⟨pgCQ, hdCQ, poCQ, saCQ⟩, noCQfirst, noCQbehind, noCQpieces, noCQtext⟩
  have ZN : mg "zip" = none := PySem.W.mg_none_of X G bzip
  have TG : TxG K mg := ⟨⟨_, PySem.W.mg_of X G nALONE⟩, ⟨_, PySem.W.mg_of X G aBP, fun H => sq_tup tupBP rfl rfl⟩, PySem.W.mg_none_of X G benumerate⟩
  have TSg : TxSg K mg := ⟨⟨dSg, [g1, g2, g3, g4, g5, g6, g7, g8, g9], PySem.W.mg_of X G aSg, fun H => .inr ⟨_, _, _, lSg, rfl, rfl, (by show 9 ≤ sizeLine; decide), .cons rfl (.cons rfl (.cons rfl (.cons rfl (.cons rfl (.cons rfl (.cons rfl (.cons rfl (.cons rfl (.nil)))))))))⟩, .cons (fun H => sq_tup tupG1 rfl rfl) (.cons (fun H => sq_tup tupG2 rfl rfl) (.cons (fun H => sq_tup tupG3 rfl rfl) (.cons (fun H => sq_tup tupG4 rfl rfl) (.cons (fun H => sq_tup tupG5 rfl rfl) (.cons (fun H => sq_tup tupG6 rfl rfl) (.cons (fun H => sq_tup tupG7 rfl rfl) (.cons (fun H => sq_tup tupG8 rfl rfl) (.cons (fun H => sq_tup tupG9 rfl rfl) (.nil)))))))))⟩⟩
  have TS : TxS K P w mg := by
    refine ⟨dS, tS1, tS2, tS3, tS4, [(.inl 224, .ref tS1), (.inl 237, .ref tS2), (.inl 240, .ref tS3), (.inl 244, .ref tS4)], PySem.W.mg_of X G aSec, mSec, fun h' X' => ?_, .cons ⟨rfl, rfl⟩ (.cons ⟨rfl, rfl⟩ (.cons ⟨rfl, rfl⟩ (.cons ⟨rfl, rfl⟩ .nil))), fun H => sq_tup tup1 rfl rfl, fun H => sq_tup tup2 rfl rfl, fun H => sq_tup tup3 rfl rfl, fun H => sq_tup tup4 rfl rfl⟩
    refine ⟨_, _, _, X' _ _ lSec, ⟨rfl, rfl, rfl⟩, rfl, fun en hen => ?_, .cons (keyIs_int 224 e1) rfl (.cons (keyIs_int 237 e2) rfl (.cons (keyIs_int 240 e3) rfl (.cons (keyIs_int 244 e4) rfl .nil))), (by show ([Sum.inl 224, Sum.inl 237, Sum.inl 240, Sum.inl 244] : List Key).Nodup; decide)⟩
    have hen' : en ∈ [(⟨224, .int 224 e1, .ref tS1⟩ : DictEntry), ⟨237, .int 237 e2, .ref tS2⟩, ⟨240, .int 240 e3, .ref tS3⟩, ⟨244, .int 244 e4, .ref tS4⟩] := by simpa using hen
    simp only [List.mem_cons, List.not_mem_nil, or_false] at hen'
    rcases hen' with rfl | rfl | rfl | rfl
    · exact ⟨.inl 224, keyIs_int 224 e1, rfl⟩
    · exact ⟨.inl 237, keyIs_int 237 e2, rfl⟩
    · exact ⟨.inl 240, keyIs_int 240 e3, rfl⟩
    · exact ⟨.inl 244, keyIs_int 244 e4, rfl⟩
  refine ⟨PySem.W.fnOf "segs" "segs" (defArgs sTopD) (defBody sTopD) (defScope sTopD) .none kVTop dcTop pmTop anTop cdTop ctTop, [(coLaS, tLaS)], spTopD [(tLaS, qLaS)] K, ?_, ?_, ?_, fun s us hu => match us, hu with | [_, _], _ => .of_eq rfl, ?_, fun base _ _ tabB => ?_⟩
  · exact fun p hp => by
          simp only [List.mem_cons, List.not_mem_nil, or_false] at hp
          subst hp
          · exact toLaS
  · exact fun p hp => by
          simp only [List.mem_cons, List.not_mem_nil, or_false] at hp
          subst hp
          · exact tnLaS
  · exact fun p hp => by
          simp only [List.mem_cons, List.not_mem_nil, or_false] at hp
          subst hp
          · exact PySem.W.codeHd_of_K X hdLaS
  · exact fun H xs a ht hw ha hx => say_top K H xs a [(tLaS, qLaS)] (by
      intro p hp
      simp only [List.mem_cons, List.not_mem_nil, or_false] at hp
      subst hp
      · exact ht (coLaS, tLaS) (by simp)) hw ha hx
  have TBLaS := tabB (coLaS, tLaS) (by simp)
  have ORf := ok_refI (P := P) (w := w) (mg := mg) (base := base) FRfI
  have HRf := ok_refH (P := P) (w := w) (mg := mg) (base := base) FRfI
  have FK : FokH P w K mg base CG := ⟨_, _, aFkI, tFkI, ok_fokH (P := P) (w := w) (base := base) FFkI TFk TRf HRf bRfI_, bFkI_⟩
  have OFlI := ok_faultI (P := P) (w := w) (base := base) FFlI TF TRf ORf bRfI_
  have GBig := (⟨_, _, oCT, PySem.W.mg_of X G aCT, aBigI, tBigI, bBigI_, ok_bigI FBigI oCT nnCT TRf ORf bRfI_⟩ : GoneOk P w K mg base "TooLarge" CT (-6))
  have GBB := (⟨_, _, oCB, PySem.W.mg_of X G aCB, aBBI, tBBI, bBBI_, ok_beyI FBBI oCB nnCB TRf ORf bRfI_⟩ : GoneOk P w K mg base "BeyondBounds" CB (-6))
  have OFkI := ok_fokI (P := P) (w := w) (base := base) FFkI TFk TRf ORf bRfI_
  have GRdI := (⟨_, _, PySem.W.mg_of X G aCR, ⟨mkCR, aRdI, iRdI, kkCR⟩, bRdI_, ok_rdI FRdI TR⟩ : NewOk P w K mg base _ "Reader" _ _ _)
  have GItI := (⟨_, _, PySem.W.mg_of X G aCI, ⟨mkCI, aItI, iItI, kkCI⟩, bItI_, ok_itemI FItI TI⟩ : NewOk P w K mg base _ "Item" _ _ _)
  have GRuI := (⟨_, _, PySem.W.mg_of X G aCU, ⟨mkCU, aRuI, iRuI, kkCU⟩, bRuI_, ok_ruleI FRuI TU⟩ : NewOk P w K mg base _ "Rule" _ _ _)
  have GStI := (⟨_, _, PySem.W.mg_of X G aCS, ⟨mkCS, aStI, iStI, kkCS⟩, bStI_, ok_setI FStI TP⟩ : NewOk P w K mg base _ "RuleSet" _ _ _)
  have GRwI := (⟨_, _, PySem.W.mg_of X G aCW, ⟨mkCW, aRwI, iRwI, kkCW⟩, bRwI_, ok_rowI FRwI TO⟩ : NewOk P w K mg base _ "Row" _ _ _)
  have GPtI := (⟨_, _, PySem.W.mg_of X G aCQ, ⟨mkCQ, aPtI, iPtI, kkCQ⟩, bPtI_, ok_partI FPtI TQ TO⟩ : NewOk P w K mg base _ "Part" _ _ _)
  have GEnd := (⟨_, _, ⟨aEnd, iEnd, kEnd⟩, bEnd_, ok_ended FEnd TR TC⟩ : MethOk P w K mg base _ _ _ "ended" _ _)
  have GLok := (⟨_, _, ⟨aLok, iLok, kLok⟩, bLok_, ok_look FLok TR TC GEnd⟩ : MethOk P w K mg base _ _ _ "look" _ _)
  have GIsCh := (⟨_, _, PySem.W.mg_of X G aIsCh, kIsCh, bIsCh_, ok_isCh FIsCh TC⟩ : CallOk P w K mg base _ _ "is_character" _ _)
  have GFst := (⟨_, _, PySem.W.mg_of X G aFst, kFst, bFst_, ok_first FFst⟩ : CallOk P w K mg base _ _ "first_byte" _ _)
  have GLds := (⟨_, _, PySem.W.mg_of X G aLds, kLds, bLds_, ok_leads FLds⟩ : CallOk P w K mg base _ _ "leads_to" _ _)
  have GTak := (⟨_, _, ⟨aTak, iTak, kTak⟩, bTak_, ok_take FTak TR TC TF GLok aFlI tFlI OFlI bFlI_⟩ : MethOk P w K mg base _ _ _ "take" _ _)
  have GNum := (⟨_, _, ⟨aNum, iNum, kNum⟩, bNum_, ok_number FNum TR TC TF GLok GLds aFlI tFlI OFlI bFlI_⟩ : MethOk P w K mg base _ _ _ "take_number" _ _)
  have GChr := (⟨_, _, ⟨aChr, iChr, kChr⟩, bChr_, ok_char FChr TR TC TF TS GLok GFst GIsCh aFlI tFlI OFlI bFlI_⟩ : MethOk P w K mg base _ _ _ "take_character" _ _)
  have GRng := (⟨_, _, PySem.W.mg_of X G aRng, kRng, bRng_, ok_range FRng TR TN GTak GNum⟩ : CallOk P w K mg base _ _ "read_range" _ _)
  have GRgs := (⟨_, _, PySem.W.mg_of X G aRgs, kRgs, bRgs_, ok_ranges FRgs TR TN GLok GTak GRng⟩ : CallOk P w K mg base _ _ "read_ranges" _ _)
  have GCer := (⟨_, _, PySem.W.mg_of X G aCer, kCer, bCer_, ok_certain FCer TR TN TF GLok GTak GChr aFlI tFlI OFlI bFlI_⟩ : CallOk P w K mg base _ _ "read_certain" _ _)
  have GAtm := (⟨_, _, PySem.W.mg_of X G aAtm, kAtm, bAtm_, ok_atom FAtm TR TN GLok GTak GNum GCer⟩ : CallOk P w K mg base _ _ "read_atom" _ _)
  have GItm := (⟨_, _, PySem.W.mg_of X G aItm, kItm, bItm_, ok_item FItm TR TN GLok GTak GNum GAtm GItI⟩ : CallOk P w K mg base _ _ "read_item" _ _)
  have GBef := (⟨_, _, PySem.W.mg_of X G aBef, kBef, bBef_, ok_before FBef TR TN GLok GTak GItm⟩ : CallOk P w K mg base _ _ "read_before" _ _)
  have GBeh := (⟨_, _, PySem.W.mg_of X G aBeh, kBeh, bBeh_, ok_behind FBeh TR TN GLok GTak GItm⟩ : CallOk P w K mg base _ _ "read_behind" _ _)
  have GRul := (⟨_, _, PySem.W.mg_of X G aRul, kRul, bRul_, ok_rule FRul TR TN GLok GTak GBef GBeh GRuI⟩ : CallOk P w K mg base _ _ "read_rule" _ _)
  have GCls := (⟨_, _, PySem.W.mg_of X G aCls, kCls, bCls_, ok_classes FCls TR TN GLok GTak GNum GRgs⟩ : CallOk P w K mg base _ _ "read_classes" _ _)
  have GRls := (⟨_, _, PySem.W.mg_of X G aRls, kRls, bRls_, ok_rules FRls TR TN GEnd GRdI GCls GRul GStI⟩ : CallOk P w K mg base _ _ "read_rules" _ _)
  have GItB := (⟨_, _, PySem.W.mg_of X G aItB, kItB, bItB_, ok_itemsB FItB TI TN⟩ : CallOk P w K mg base _ _ "items_beyond_bounds" _ _)
  have GBey := (⟨_, _, PySem.W.mg_of X G aBey, kBey, bBey_, ok_beyond FBey TP TU TN GItB⟩ : CallOk P w K mg base _ _ "beyond_bounds" _ _)
  have GChk := (⟨_, _, PySem.W.mg_of X G aChk, kChk, bChk_, ok_checked FChk GBB GRls GBey⟩ : CallOk P w K mg base _ _ "checked_rules" _ _)
  have GPce := (⟨_, _, PySem.W.mg_of X G aPce, kPce, bPce_, ok_piece FPce TR TN TW GLok GTak GNum GChr⟩ : CallOk P w K mg base _ _ "read_piece" _ _)
  have GRow := (⟨_, _, PySem.W.mg_of X G aRow, kRow, bRow_, ok_row FRow TR GEnd GRdI GPce GRwI⟩ : CallOk P w K mg base _ _ "read_row" _ _)
  have GChs := (⟨_, _, PySem.W.mg_of X G aChs, kChs, bChs_, ok_chars FChs TW TO⟩ : CallOk P w K mg base _ _ "characters_of" _ _)
  have GHlv := (⟨_, _, PySem.W.mg_of X G aHlv, kHlv, bHlv_, ok_halves FHlv TW⟩ : CallOk P w K mg base _ _ "halves" _ _)
  have GPrd := (⟨_, _, PySem.W.mg_of X G aPrd, kPrd, bPrd_, ok_paired FPrd TO GHlv⟩ : CallOk P w K mg base _ _ "is_paired" _ _)
  have GInR := (⟨_, _, PySem.W.mg_of X G aInR, kInR, bInR_, ok_inR FInR TN⟩ : CallOk P w K mg base _ _ "in_ranges" _ _)
  have GTkU := (⟨_, _, ⟨aTkU, iTkU, kTkU⟩, bTkU_, ok_tkU FTkU TA TN⟩ : MethOk P w K mg base _ _ _ "take_up" _ _)
  have GWIn := (⟨_, _, ⟨aWIn, iWIn, kWIn⟩, bWIn_, ok_wIn FWIn TA GInR⟩ : MethOk P w K mg base _ _ _ "where_in" _ _)
  have GWCe := (⟨_, _, ⟨aWCe, iWCe, kWCe⟩, bWCe_, ok_wCer FWCe TA⟩ : MethOk P w K mg base _ _ _ "where_certain" _ _)
  have GWAt := (⟨_, _, ⟨aWAt, iWAt, kWAt⟩, bWAt_, ok_wAtom FWAt TA TI TN GWCe⟩ : MethOk P w K mg base _ _ _ "where_atom" _ _)
  have GFwd := (⟨_, _, ⟨aFwd, iFwd, kFwd⟩, bFwd_, ok_fwd FFwd TA TI GWAt⟩ : MethOk P w K mg base _ _ _ "go_forward" _ _)
  have GBck := (⟨_, _, ⟨aBck, iBck, kBck⟩, bBck_, ok_back FBck TA TI GWAt⟩ : MethOk P w K mg base _ _ _ "go_back" _ _)
  have GSay := (⟨_, _, ⟨aSay, iSay, kSay⟩, bSay_, ok_says FSay TA TU GFwd GBck⟩ : MethOk P w K mg base _ _ _ "where_says" _ _)
  have GWCu := (⟨_, _, ⟨aWCu, iWCu, kWCu⟩, bWCu_, ok_wCut FWCu TA TU GSay⟩ : MethOk P w K mg base _ _ _ "where_cut" _ _)
  have GPaI := (⟨_, _, PySem.W.mg_of X G aCA, ⟨mkCA, aPaI, iPaI, kkCA⟩, bPaI_, ok_paI FPaI TA TN GTkU GWIn⟩ : NewOk P w K mg base _ "Paragraphs" _ _ _)
  have GCut := (⟨_, _, PySem.W.mg_of X G aCut, kCut, bCut_, ok_cuts FCut TA TP TN GPaI GWCu⟩ : CallOk P w K mg base _ _ "cut_places" _ _)
  have GCtB := (⟨_, _, PySem.W.mg_of X G aCtB, kCtB, bCtB_, ok_cutB FCtB TW TG⟩ : CallOk P w K mg base _ _ "cut_behind" _ _)
  have GStr := (⟨_, _, PySem.W.mg_of X G aStr, kStr, bStr_, ok_str FStr TW TN TG TO GCtB GPtI⟩ : CallOk P w K mg base _ _ "stretches" _ _)
  have GHsS := (⟨_, _, PySem.W.mg_of X G aHsS, kHsS, bHsS_, ok_hasS FHsS TW TN TQ⟩ : CallOk P w K mg base _ _ "has_segment" _ _)
  have GTrm := (⟨_, _, PySem.W.mg_of X G aTrm, kTrm, bTrm_, ok_trim FTrm TG TO TQ GPtI⟩ : CallOk P w K mg base _ _ "without_blanks" _ _)
  have GSgs := (⟨_, _, PySem.W.mg_of X G aSgs, kSgs, bSgs_, ok_segs FSgs ZN TO GCut GChs GStr GHsS GTrm⟩ : CallOk P w K mg base _ _ "segments_of" _ _)
  have GSiz := (⟨_, _, PySem.W.mg_of X G aSiz, kSiz, bSiz_, ok_size FSiz TN GBig⟩ : CallOk P w K mg base _ _ "check_size" _ _)
  have GLnI := (⟨_, _, PySem.W.mg_of X G aCL, ⟨mkCL, aLnI, iLnI, kkCL⟩, bLnI_, ok_lineI FLnI TLn⟩ : NewOk P w K mg base _ "Line" _ _ _)
  have GLEd := (⟨_, _, PySem.W.mg_of X G aLEd, kLEd, bLEd_, ok_lend FLEd TN⟩ : CallOk P w K mg base _ _ "line_end" _ _)
  have GRaw := (⟨_, _, PySem.W.mg_of X G aRaw, kRaw, bRaw_, ok_raw FRaw TR TD TF GEnd GRdI GChr aFlI tFlI OFlI bFlI_⟩ : CallOk P w K mg base _ _ "check_raw" _ _)
  have GPRw := (⟨_, _, PySem.W.mg_of X G aPRw, kPRw, bPRw_, ok_prow FPRw TO TW TN TF GRow GPrd aFlI tFlI OFlI bFlI_⟩ : CallOk P w K mg base _ _ "paragraph_row" _ _)
  have GRLn := (⟨_, _, PySem.W.mg_of X G aRLn, kRLn, bRLn_, ok_rline FRLn TLn TD TN TF GLnI GPRw GRaw aFlI tFlI OFlI bFlI_⟩ : CallOk P w K mg base _ _ "read_line" _ _)
  have GRDc := (⟨_, _, PySem.W.mg_of X G aRDc, kRDc, bRDc_, ok_rdoc FRDc TD TN TF GLEd GRLn aFlI tFlI OFlI bFlI_⟩ : CallOk P w K mg base _ _ "read_document" _ _)
  have GByL := (⟨_, _, PySem.W.mg_of X G aByL, kByL, bByL_, ok_byl FByL ZN TG TLn TO GSgs⟩ : CallOk P w K mg base _ _ "segments_by_line" _ _)
  have GNbd := (⟨_, _, PySem.W.mg_of X G aNbd, kNbd, bNbd_, ok_nbd (CQ := CQ) FNbd (PySem.W.mg_none_of X G benumerate)⟩ : CallOk P w K mg base _ _ "numbered" _ _)
  have memL : (tLaS, qLaS) ∈ ([(tLaS, qLaS)] : List (Addr × Str)) := List.mem_cons_self ..
  have oneL : ∀ p ∈ ([(tLaS, qLaS)] : List (Addr × Str)), p.1 = tLaS → p.2 = qLaS := fun p hp _ => by rw [List.mem_singleton.mp hp]
  have GLaS := (⟨_, _, PySem.W.mg_of X G aLaS, kLaS, bLaS_, ok_las FLaS TKd TF TFk FK RA sF sB TBLaS memL oneL GSiz GChk GRDc GByL⟩ : CallOk P w K mg base _ _ "lines_and_segments" _ _)
  have GDoS := (⟨_, _, PySem.W.mg_of X G aDoS, kDoS, bDoS_, ok_dos FDoS GLaS GNbd⟩ : CallOk P w K mg base _ _ "document_segments" _ _)
  have GSig := (⟨_, _, PySem.W.mg_of X G aSig, kSig, bSig_, ok_sign FSig TN TSg⟩ : CallOk P w K mg base _ _ "is_sign" _ _)
  have GWds := (⟨_, _, PySem.W.mg_of X G aWds, kWds, bWds_, ok_words FWds TW TN GSig⟩ : CallOk P w K mg base _ _ "words_in" _ _)
  have GFrm := (⟨_, _, PySem.W.mg_of X G aFrm, kFrm, bFrm_, ok_form FFrm TW TN (PySem.W.mg_none_of X G btuple)⟩ : CallOk P w K mg base _ _ "form_of" _ _)
  have GErl := (⟨_, _, PySem.W.mg_of X G aErl, kErl, bErl_, ok_earl FErl TN GFrm⟩ : CallOk P w K mg base _ _ "of_earlier_form" _ _)
  exact ok_topD FTop TQ TN (PySem.W.mg_none_of X G bsum) gE eT eB eG GDoS GWds GErl
end Sg

/-! End_s06_segs -/
set_option Elab.async false
set_option linter.all false
open PySem PySem.W PyProof.Rows
local macro_rules
  | `(tactic| o_headS ($hook:ident $K $as $e)) => `(tactic| o_headS (PySem.W.kmHook $K $as $e [650]))
set_option maxRecDepth 100000 in
set_option maxHeartbeats 8000000 in
theorem PySem.Challenge.cw_segmentrules_s06_segs_holds : PySem.Challenge.rw_segmentrules_s06_segs.Holds := by
  w_on; k_headS; (case hw => exact ⟨[.list [], .list []], by decide +kernel, by decide +kernel⟩)
  k_fillS
  refine Sg.walk_tabs (r := PySem.Challenge.rw_segmentrules_s06_segs) (k := 16) (CX := L2.CX0) (ps := ["t", "d"]) (by decide +kernel) rfl rfl ⟨rfl, by decide, by decide⟩ (fun w h Y => PySem.W.km_in_of Y) ?F (fun _ _ _ _ z => z)
  case F =>
    intro w mg fa h Y KX G hmg
    refine' Sg.all_mk KX G hmg ?blen ?bany ?brange ?blist ?benumerate ?breversed ?bsum ?bzip ?btuple ?nNO_RULES ?nNO_DOCUMENT ?nNO_BYTE ?nLAST_NUMBER ?nLINE_FEED ?nBLANK ?nPLUS ?nHYPHEN ?nDOT ?nNOUGHT ?nNINE ?nBAR ?nQUOTE ?nDOLLAR ?nPERCENT ?nSTAR ?nCARET ?nANY ?nOF_CLASS ?nCERTAIN ?nLAST_CLASS ?nMOST_TIMES ?nMOST_RULES ?nMOST_RANGES ?nMOST_ITEMS ?nMOST_CHARACTERS_rulestext ?nLEFT_BRACE ?nRIGHT_BRACE ?nCHARACTER ?nOPENS ?nCLOSES ?nALONE ?nLAST_TAG ?nMOST_PIECES ?nRAW_SIGN ?nPARAGRAPH_SIGN ?nMOST_DOCUMENT_BYTES ?nMOST_LINES ?nMOST_CHARACTERS_documenttext ?nMOST_RULES_BYTES ?aCR ?pgCR ?hdCR ?poCR ?saCR ?mkCR ?kkCR ?noCRtext ?noCRplace ?noCRbehind ?aCI ?pgCI ?hdCI ?poCI ?saCI ?mkCI ?kkCI ?noCIkind ?noCIatom ?noCIleast ?noCImost ?aCU ?pgCU ?hdCU ?poCU ?saCU ?mkCU ?kkCU ?noCUcuts ?noCUfrom_beginning ?noCUbefore ?noCUbehind ?noCUto_end ?aCS ?pgCS ?hdCS ?poCS ?saCS ?mkCS ?kkCS ?noCSclasses ?noCSrules ?aCA ?pgCA ?hdCA ?poCA ?saCA ?mkCA ?kkCA ?noCAbeginnings ?noCAends ?noCAof_character ?noCAeverywhere ?noCAof_class ?aCW ?pgCW ?hdCW ?poCW ?saCW ?mkCW ?kkCW ?noCWtext ?noCWpieces ?noCWstarts ?aCQ ?pgCQ ?hdCQ ?poCQ ?saCQ ?mkCQ ?kkCQ ?noCQfirst ?noCQbehind ?noCQpieces ?noCQtext ?aCL ?pgCL ?hdCL ?poCL ?saCL ?mkCL ?kkCL ?noCLtext ?noCLrow ?aRdI ?iRdI ?lRdI ?cRdI ?kRdI ?aItI ?iItI ?lItI ?cItI ?kItI ?aRuI ?iRuI ?lRuI ?cRuI ?kRuI ?aStI ?iStI ?lStI ?cStI ?kStI ?aPaI ?iPaI ?lPaI ?cPaI ?kPaI ?aRwI ?iRwI ?lRwI ?cRwI ?kRwI ?aPtI ?iPtI ?lPtI ?cPtI ?kPtI ?aLnI ?iLnI ?lLnI ?cLnI ?kLnI ?aEnd ?iEnd ?lEnd ?cEnd ?kEnd ?aLok ?iLok ?lLok ?cLok ?kLok ?aTak ?iTak ?lTak ?cTak ?kTak ?aNum ?iNum ?lNum ?cNum ?kNum ?aChr ?iChr ?lChr ?cChr ?kChr ?aTkU ?iTkU ?lTkU ?cTkU ?kTkU ?aWIn ?iWIn ?lWIn ?cWIn ?kWIn ?aWCe ?iWCe ?lWCe ?cWCe ?kWCe ?aWAt ?iWAt ?lWAt ?cWAt ?kWAt ?aFwd ?iFwd ?lFwd ?cFwd ?kFwd ?aBck ?iBck ?lBck ?cBck ?kBck ?aSay ?iSay ?lSay ?cSay ?kSay ?aWCu ?iWCu ?lWCu ?cWCu ?kWCu ?aIsCh ?lIsCh ?cIsCh ?kIsCh ?aFst ?lFst ?cFst ?kFst ?aLds ?lLds ?cLds ?kLds ?aRng ?lRng ?cRng ?kRng ?aRgs ?lRgs ?cRgs ?kRgs ?aCls ?lCls ?cCls ?kCls ?aCer ?lCer ?cCer ?kCer ?aAtm ?lAtm ?cAtm ?kAtm ?aItm ?lItm ?cItm ?kItm ?aBef ?lBef ?cBef ?kBef ?aBeh ?lBeh ?cBeh ?kBeh ?aRul ?lRul ?cRul ?kRul ?aRls ?lRls ?cRls ?kRls ?aItB ?lItB ?cItB ?kItB ?aBey ?lBey ?cBey ?kBey ?aChk ?lChk ?cChk ?kChk ?aPce ?lPce ?cPce ?kPce ?aRow ?lRow ?cRow ?kRow ?aHlv ?lHlv ?cHlv ?kHlv ?aChs ?lChs ?cChs ?kChs ?aPrd ?lPrd ?cPrd ?kPrd ?aInR ?lInR ?cInR ?kInR ?aCut ?lCut ?cCut ?kCut ?aCtB ?lCtB ?cCtB ?kCtB ?aStr ?lStr ?cStr ?kStr ?aHsS ?lHsS ?cHsS ?kHsS ?aTrm ?lTrm ?cTrm ?kTrm ?aSgs ?lSgs ?cSgs ?kSgs ?aLEd ?lLEd ?cLEd ?kLEd ?aRaw ?lRaw ?cRaw ?kRaw ?aPRw ?lPRw ?cPRw ?kPRw ?aRLn ?lRLn ?cRLn ?kRLn ?aRDc ?lRDc ?cRDc ?kRDc ?aByL ?lByL ?cByL ?kByL ?aNbd ?lNbd ?cNbd ?kNbd ?aRdA ?lRdA ?cRdA ?kRdA ?aLaS ?lLaS ?cLaS ?pcLaS ?tbLaS ?hdLaS ?kLaS ?aDoS ?lDoS ?cDoS ?kDoS ?aSig ?lSig ?cSig ?kSig ?aWds ?lWds ?cWds ?kWds ?aFrm ?lFrm ?cFrm ?kFrm ?aErl ?lErl ?cErl ?kErl ?aSiz ?lSiz ?cSiz ?kSiz ?aTop ?lTop ?cTop ?kTop ?aCE ?rdCE ?gaCE ?aRfI ?lRfI ?cRfI ?kRfI ?eeCE ?iiCE ?ttCE ?aCF ?xCF ?saCF ?gaCF ?ggCF ?nnCF ?kkCF ?eeCF ?ttCF ?hdCF ?sECF ?aCG ?xCG ?saCG ?gaCG ?ggCG ?nnCG ?kkCG ?eeCG ?ttCG ?hdCG ?sECG ?aCT ?xCT ?saCT ?gaCT ?ggCT ?nnCT ?kkCT ?eeCT ?ttCT ?hdCT ?sECT ?aCB ?xCB ?saCB ?gaCB ?ggCB ?nnCB ?kkCB ?eeCB ?ttCB ?hdCB ?sECB ?npCF ?aFlI ?tFlI ?lFlI ?cFlI ?kFlI ?npCG ?nkCG ?aFkI ?tFkI ?lFkI ?cFkI ?kFkI ?aBigI ?tBigI ?lBigI ?cBigI ?kBigI ?aBBI ?tBBI ?lBBI ?cBBI ?kBBI ?iiCF ?sFCF ?sFCG ?sFCT ?sFCB ?aSec ?lSec ?mSec ?tup1 ?tup2 ?tup3 ?tup4 ?aBP ?tupBP ?aSg ?lSg ?tupG1 ?tupG2 ?tupG3 ?tupG4 ?tupG5 ?tupG6 ?tupG7 ?tupG8 ?tupG9 ?toLaS ?tnLaS
    (case blen => k_is)
    (case bany => k_is)
    (case brange => k_is)
    (case blist => k_is)
    (case benumerate => k_is)
    (case breversed => k_is)
    (case bsum => k_is)
    (case bzip => k_is)
    (case btuple => k_is)
    (case nNO_RULES => k_is)
    (case nNO_DOCUMENT => k_is)
    (case nNO_BYTE => k_is)
    (case nLAST_NUMBER => k_is)
    (case nLINE_FEED => k_is)
    (case nBLANK => k_is)
    (case nPLUS => k_is)
    (case nHYPHEN => k_is)
    (case nDOT => k_is)
    (case nNOUGHT => k_is)
    (case nNINE => k_is)
    (case nBAR => k_is)
    (case nQUOTE => k_is)
    (case nDOLLAR => k_is)
    (case nPERCENT => k_is)
    (case nSTAR => k_is)
    (case nCARET => k_is)
    (case nANY => k_is)
    (case nOF_CLASS => k_is)
    (case nCERTAIN => k_is)
    (case nLAST_CLASS => k_is)
    (case nMOST_TIMES => k_is)
    (case nMOST_RULES => k_is)
    (case nMOST_RANGES => k_is)
    (case nMOST_ITEMS => k_is)
    (case nMOST_CHARACTERS_rulestext => k_is)
    (case nLEFT_BRACE => k_is)
    (case nRIGHT_BRACE => k_is)
    (case nCHARACTER => k_is)
    (case nOPENS => k_is)
    (case nCLOSES => k_is)
    (case nALONE => k_is)
    (case nLAST_TAG => k_is)
    (case nMOST_PIECES => k_is)
    (case nRAW_SIGN => k_is)
    (case nPARAGRAPH_SIGN => k_is)
    (case nMOST_DOCUMENT_BYTES => k_is)
    (case nMOST_LINES => k_is)
    (case nMOST_CHARACTERS_documenttext => k_is)
    (case nMOST_RULES_BYTES => k_is)
    (case aCR => k_is)
    (case pgCR => k_is)
    (case hdCR => k_is)
    (case poCR => k_is)
    (case saCR => k_is)
    (case mkCR => k_is)
    (case kkCR => k_is)
    (case noCRtext => k_is)
    (case noCRplace => k_is)
    (case noCRbehind => k_is)
    (case aCI => k_is)
    (case pgCI => k_is)
    (case hdCI => k_is)
    (case poCI => k_is)
    (case saCI => k_is)
    (case mkCI => k_is)
    (case kkCI => k_is)
    (case noCIkind => k_is)
    (case noCIatom => k_is)
    (case noCIleast => k_is)
    (case noCImost => k_is)
    (case aCU => k_is)
    (case pgCU => k_is)
    (case hdCU => k_is)
    (case poCU => k_is)
    (case saCU => k_is)
    (case mkCU => k_is)
    (case kkCU => k_is)
    (case noCUcuts => k_is)
    (case noCUfrom_beginning => k_is)
    (case noCUbefore => k_is)
    (case noCUbehind => k_is)
    (case noCUto_end => k_is)
    (case aCS => k_is)
    (case pgCS => k_is)
    (case hdCS => k_is)
    (case poCS => k_is)
    (case saCS => k_is)
    (case mkCS => k_is)
    (case kkCS => k_is)
    (case noCSclasses => k_is)
    (case noCSrules => k_is)
    (case aCA => k_is)
    (case pgCA => k_is)
    (case hdCA => k_is)
    (case poCA => k_is)
    (case saCA => k_is)
    (case mkCA => k_is)
    (case kkCA => k_is)
    (case noCAbeginnings => k_is)
    (case noCAends => k_is)
    (case noCAof_character => k_is)
    (case noCAeverywhere => k_is)
    (case noCAof_class => k_is)
    (case aCW => k_is)
    (case pgCW => k_is)
    (case hdCW => k_is)
    (case poCW => k_is)
    (case saCW => k_is)
    (case mkCW => k_is)
    (case kkCW => k_is)
    (case noCWtext => k_is)
    (case noCWpieces => k_is)
    (case noCWstarts => k_is)
    (case aCQ => k_is)
    (case pgCQ => k_is)
    (case hdCQ => k_is)
    (case poCQ => k_is)
    (case saCQ => k_is)
    (case mkCQ => k_is)
    (case kkCQ => k_is)
    (case noCQfirst => k_is)
    (case noCQbehind => k_is)
    (case noCQpieces => k_is)
    (case noCQtext => k_is)
    (case aCL => k_is)
    (case pgCL => k_is)
    (case hdCL => k_is)
    (case poCL => k_is)
    (case saCL => k_is)
    (case mkCL => k_is)
    (case kkCL => k_is)
    (case noCLtext => k_is)
    (case noCLrow => k_is)
    (case aRdI => k_is)
    (case iRdI => k_is)
    (case lRdI => k_is)
    (case cRdI => k_is)
    (case kRdI => k_is)
    (case aItI => k_is)
    (case iItI => k_is)
    (case lItI => k_is)
    (case cItI => k_is)
    (case kItI => k_is)
    (case aRuI => k_is)
    (case iRuI => k_is)
    (case lRuI => k_is)
    (case cRuI => k_is)
    (case kRuI => k_is)
    (case aStI => k_is)
    (case iStI => k_is)
    (case lStI => k_is)
    (case cStI => k_is)
    (case kStI => k_is)
    (case aPaI => k_is)
    (case iPaI => k_is)
    (case lPaI => k_is)
    (case cPaI => k_is)
    (case kPaI => k_is)
    (case aRwI => k_is)
    (case iRwI => k_is)
    (case lRwI => k_is)
    (case cRwI => k_is)
    (case kRwI => k_is)
    (case aPtI => k_is)
    (case iPtI => k_is)
    (case lPtI => k_is)
    (case cPtI => k_is)
    (case kPtI => k_is)
    (case aLnI => k_is)
    (case iLnI => k_is)
    (case lLnI => k_is)
    (case cLnI => k_is)
    (case kLnI => k_is)
    (case aEnd => k_is)
    (case iEnd => k_is)
    (case lEnd => k_is)
    (case cEnd => k_is)
    (case kEnd => k_is)
    (case aLok => k_is)
    (case iLok => k_is)
    (case lLok => k_is)
    (case cLok => k_is)
    (case kLok => k_is)
    (case aTak => k_is)
    (case iTak => k_is)
    (case lTak => k_is)
    (case cTak => k_is)
    (case kTak => k_is)
    (case aNum => k_is)
    (case iNum => k_is)
    (case lNum => k_is)
    (case cNum => k_is)
    (case kNum => k_is)
    (case aChr => k_is)
    (case iChr => k_is)
    (case lChr => k_is)
    (case cChr => k_is)
    (case kChr => k_is)
    (case aTkU => k_is)
    (case iTkU => k_is)
    (case lTkU => k_is)
    (case cTkU => k_is)
    (case kTkU => k_is)
    (case aWIn => k_is)
    (case iWIn => k_is)
    (case lWIn => k_is)
    (case cWIn => k_is)
    (case kWIn => k_is)
    (case aWCe => k_is)
    (case iWCe => k_is)
    (case lWCe => k_is)
    (case cWCe => k_is)
    (case kWCe => k_is)
    (case aWAt => k_is)
    (case iWAt => k_is)
    (case lWAt => k_is)
    (case cWAt => k_is)
    (case kWAt => k_is)
    (case aFwd => k_is)
    (case iFwd => k_is)
    (case lFwd => k_is)
    (case cFwd => k_is)
    (case kFwd => k_is)
    (case aBck => k_is)
    (case iBck => k_is)
    (case lBck => k_is)
    (case cBck => k_is)
    (case kBck => k_is)
    (case aSay => k_is)
    (case iSay => k_is)
    (case lSay => k_is)
    (case cSay => k_is)
    (case kSay => k_is)
    (case aWCu => k_is)
    (case iWCu => k_is)
    (case lWCu => k_is)
    (case cWCu => k_is)
    (case kWCu => k_is)
    (case aIsCh => k_is)
    (case lIsCh => k_is)
    (case cIsCh => k_is)
    (case kIsCh => k_is)
    (case aFst => k_is)
    (case lFst => k_is)
    (case cFst => k_is)
    (case kFst => k_is)
    (case aLds => k_is)
    (case lLds => k_is)
    (case cLds => k_is)
    (case kLds => k_is)
    (case aRng => k_is)
    (case lRng => k_is)
    (case cRng => k_is)
    (case kRng => k_is)
    (case aRgs => k_is)
    (case lRgs => k_is)
    (case cRgs => k_is)
    (case kRgs => k_is)
    (case aCls => k_is)
    (case lCls => k_is)
    (case cCls => k_is)
    (case kCls => k_is)
    (case aCer => k_is)
    (case lCer => k_is)
    (case cCer => k_is)
    (case kCer => k_is)
    (case aAtm => k_is)
    (case lAtm => k_is)
    (case cAtm => k_is)
    (case kAtm => k_is)
    (case aItm => k_is)
    (case lItm => k_is)
    (case cItm => k_is)
    (case kItm => k_is)
    (case aBef => k_is)
    (case lBef => k_is)
    (case cBef => k_is)
    (case kBef => k_is)
    (case aBeh => k_is)
    (case lBeh => k_is)
    (case cBeh => k_is)
    (case kBeh => k_is)
    (case aRul => k_is)
    (case lRul => k_is)
    (case cRul => k_is)
    (case kRul => k_is)
    (case aRls => k_is)
    (case lRls => k_is)
    (case cRls => k_is)
    (case kRls => k_is)
    (case aItB => k_is)
    (case lItB => k_is)
    (case cItB => k_is)
    (case kItB => k_is)
    (case aBey => k_is)
    (case lBey => k_is)
    (case cBey => k_is)
    (case kBey => k_is)
    (case aChk => k_is)
    (case lChk => k_is)
    (case cChk => k_is)
    (case kChk => k_is)
    (case aPce => k_is)
    (case lPce => k_is)
    (case cPce => k_is)
    (case kPce => k_is)
    (case aRow => k_is)
    (case lRow => k_is)
    (case cRow => k_is)
    (case kRow => k_is)
    (case aHlv => k_is)
    (case lHlv => k_is)
    (case cHlv => k_is)
    (case kHlv => k_is)
    (case aChs => k_is)
    (case lChs => k_is)
    (case cChs => k_is)
    (case kChs => k_is)
    (case aPrd => k_is)
    (case lPrd => k_is)
    (case cPrd => k_is)
    (case kPrd => k_is)
    (case aInR => k_is)
    (case lInR => k_is)
    (case cInR => k_is)
    (case kInR => k_is)
    (case aCut => k_is)
    (case lCut => k_is)
    (case cCut => k_is)
    (case kCut => k_is)
    (case aCtB => k_is)
    (case lCtB => k_is)
    (case cCtB => k_is)
    (case kCtB => k_is)
    (case aStr => k_is)
    (case lStr => k_is)
    (case cStr => k_is)
    (case kStr => k_is)
    (case aHsS => k_is)
    (case lHsS => k_is)
    (case cHsS => k_is)
    (case kHsS => k_is)
    (case aTrm => k_is)
    (case lTrm => k_is)
    (case cTrm => k_is)
    (case kTrm => k_is)
    (case aSgs => k_is)
    (case lSgs => k_is)
    (case cSgs => k_is)
    (case kSgs => k_is)
    (case aLEd => k_is)
    (case lLEd => k_is)
    (case cLEd => k_is)
    (case kLEd => k_is)
    (case aRaw => k_is)
    (case lRaw => k_is)
    (case cRaw => k_is)
    (case kRaw => k_is)
    (case aPRw => k_is)
    (case lPRw => k_is)
    (case cPRw => k_is)
    (case kPRw => k_is)
    (case aRLn => k_is)
    (case lRLn => k_is)
    (case cRLn => k_is)
    (case kRLn => k_is)
    (case aRDc => k_is)
    (case lRDc => k_is)
    (case cRDc => k_is)
    (case kRDc => k_is)
    (case aByL => k_is)
    (case lByL => k_is)
    (case cByL => k_is)
    (case kByL => k_is)
    (case aNbd => k_is)
    (case lNbd => k_is)
    (case cNbd => k_is)
    (case kNbd => k_is)
    (case aRdA => k_is)
    (case lRdA => k_is)
    (case cRdA => k_is)
    (case kRdA => k_is)
    (case aLaS => k_is)
    (case lLaS => k_is)
    (case cLaS => k_is)
    (case pcLaS => k_is)
    (case tbLaS => rfl)
    (case hdLaS => first | kernel_rfl | rfl | decide +kernel)
    (case kLaS => k_is)
    (case aDoS => k_is)
    (case lDoS => k_is)
    (case cDoS => k_is)
    (case kDoS => k_is)
    (case aSig => k_is)
    (case lSig => k_is)
    (case cSig => k_is)
    (case kSig => k_is)
    (case aWds => k_is)
    (case lWds => k_is)
    (case cWds => k_is)
    (case kWds => k_is)
    (case aFrm => k_is)
    (case lFrm => k_is)
    (case cFrm => k_is)
    (case kFrm => k_is)
    (case aErl => k_is)
    (case lErl => k_is)
    (case cErl => k_is)
    (case kErl => k_is)
    (case aSiz => k_is)
    (case lSiz => k_is)
    (case cSiz => k_is)
    (case kSiz => k_is)
    (case aTop => k_is)
    (case lTop => k_is)
    (case cTop => k_is)
    (case kTop => k_is)
    (case aCE => k_is)
    (case rdCE => k_is)
    (case gaCE => k_is)
    (case aRfI => first | k_is | rfl)
    (case lRfI => k_is)
    (case cRfI => k_is)
    (case kRfI => k_is)
    (case eeCE => k_is)
    (case iiCE => k_is)
    (case ttCE => k_is)
    (case aCF => k_is)
    (case xCF => k_is)
    (case saCF => k_is)
    (case gaCF => k_is)
    (case ggCF => k_is)
    (case nnCF => k_is)
    (case kkCF => k_is)
    (case eeCF => k_is)
    (case ttCF => k_is)
    (case hdCF => k_is)
    (case sECF => first | rfl | k_is)
    (case aCG => k_is)
    (case xCG => k_is)
    (case saCG => k_is)
    (case gaCG => k_is)
    (case ggCG => k_is)
    (case nnCG => k_is)
    (case kkCG => k_is)
    (case eeCG => k_is)
    (case ttCG => k_is)
    (case hdCG => k_is)
    (case sECG => first | rfl | k_is)
    (case aCT => k_is)
    (case xCT => k_is)
    (case saCT => k_is)
    (case gaCT => k_is)
    (case ggCT => k_is)
    (case nnCT => k_is)
    (case kkCT => k_is)
    (case eeCT => k_is)
    (case ttCT => k_is)
    (case hdCT => k_is)
    (case sECT => first | rfl | k_is)
    (case aCB => k_is)
    (case xCB => k_is)
    (case saCB => k_is)
    (case gaCB => k_is)
    (case ggCB => k_is)
    (case nnCB => k_is)
    (case kkCB => k_is)
    (case eeCB => k_is)
    (case ttCB => k_is)
    (case hdCB => k_is)
    (case sECB => first | rfl | k_is)
    (case npCF => k_is)
    (case aFlI => k_is)
    (case tFlI => k_is)
    (case lFlI => k_is)
    (case cFlI => k_is)
    (case kFlI => k_is)
    (case npCG => k_is)
    (case nkCG => k_is)
    (case aFkI => k_is)
    (case tFkI => k_is)
    (case lFkI => k_is)
    (case cFkI => k_is)
    (case kFkI => k_is)
    (case aBigI => k_is)
    (case tBigI => k_is)
    (case lBigI => k_is)
    (case cBigI => k_is)
    (case kBigI => k_is)
    (case aBBI => k_is)
    (case tBBI => k_is)
    (case lBBI => k_is)
    (case cBBI => k_is)
    (case kBBI => k_is)
    (case iiCF => k_is)
    (case sFCF => first | rfl | k_is)
    (case sFCG => first | rfl | k_is)
    (case sFCT => first | rfl | k_is)
    (case sFCB => first | rfl | k_is)
    (case aSec => k_is)
    (case lSec => k_is)
    (case mSec => first | rfl | decide +kernel | k_is)
    (case tup1 => k_is)
    (case tup2 => k_is)
    (case tup3 => k_is)
    (case tup4 => k_is)
    (case aBP => k_is)
    (case tupBP => k_is)
    (case aSg => k_is)
    (case lSg => k_is)
    (case tupG1 => k_is)
    (case tupG2 => k_is)
    (case tupG3 => k_is)
    (case tupG4 => k_is)
    (case tupG5 => k_is)
    (case tupG6 => k_is)
    (case tupG7 => k_is)
    (case tupG8 => k_is)
    (case tupG9 => k_is)
    (case toLaS => exact PySem.W.km_tabs_of Y _ (by simp))
    (case tnLaS => first | rfl | kernel_rfl | decide +kernel)
