import PyProof.Rows.All
import Wide.All
import OpenK.AllK
import Wide.FinOn
import PyProof.EqAt
import PyProof.EqKinds
import PyProof.TupleCall
import KE.BitLaws
import Open.SpecLaws
import KE.OsHead
import KE.OsGo
import PySem.Challenge.RW_spreadnodes_s01_answers
set_option Elab.async false
set_option linter.all false
set_option maxRecDepth 100000
section
namespace Fld
open Sp
theorem all8 {P : UInt8 → Prop} [DecidablePred P] (h : ∀ n, n < 256 → P (UInt8.ofNat n)) (a : UInt8) : P a := by
  have := h a.toNat a.toNat_lt
  rwa [UInt8.ofNat_toNat] at this
theorem xor_self (a : UInt8) : a ^^^ a = 0 := UInt8.xor_self
theorem xor_zero (a : UInt8) : a ^^^ 0 = a := UInt8.xor_zero
theorem zero_xor (a : UInt8) : 0 ^^^ a = a := UInt8.zero_xor
theorem xor_comm (a b : UInt8) : a ^^^ b = b ^^^ a := UInt8.xor_comm a b
theorem xor_assoc (a b c : UInt8) : (a ^^^ b) ^^^ c = a ^^^ (b ^^^ c) := UInt8.xor_assoc a b c
theorem xor_left_comm (a b c : UInt8) : a ^^^ (b ^^^ c) = b ^^^ (a ^^^ c) := by
  rw [← xor_assoc, xor_comm a b, xor_assoc]
theorem xor_cancel (a b : UInt8) : a ^^^ (a ^^^ b) = b := by rw [← xor_assoc, xor_self, zero_xor]
theorem xor_eq_zero {a b : UInt8} : a ^^^ b = 0 ↔ a = b := by
  constructor
  · intro h
    have : a ^^^ (a ^^^ b) = a ^^^ 0 := by rw [h]
    rw [xor_cancel, xor_zero] at this
    exact this.symm
  · intro h; rw [h, xor_self]
theorem bits_dec : ∀ n, n < 256 → (UInt8.ofNat n) = (UInt8.ofNat n &&& 1) ^^^ ((UInt8.ofNat n &&& 2) ^^^ ((UInt8.ofNat n &&& 4) ^^^ ((UInt8.ofNat n &&& 8) ^^^ ((UInt8.ofNat n &&& 16) ^^^ ((UInt8.ofNat n &&& 32) ^^^ ((UInt8.ofNat n &&& 64) ^^^ (UInt8.ofNat n &&& 128))))))) := by decide +kernel
theorem bit_dec : ∀ i, i < 8 → ∀ n, n < 256 → (UInt8.ofNat n &&& UInt8.ofNat (2 ^ i)) = 0 ∨ (UInt8.ofNat n &&& UInt8.ofNat (2 ^ i)) = UInt8.ofNat (2 ^ i) := by decide +kernel
theorem by_bits {P : UInt8 → Prop} (h0 : P 0) (hx : ∀ a b, P a → P b → P (a ^^^ b)) (hb : ∀ i, i < 8 → P (UInt8.ofNat (2 ^ i))) (a : UInt8) : P a := by
  have e := bits_dec a.toNat a.toNat_lt
  rw [UInt8.ofNat_toNat] at e
  have q : ∀ i, i < 8 → P (a &&& UInt8.ofNat (2 ^ i)) := fun i hi => by
    have r := bit_dec i hi a.toNat a.toNat_lt
    rw [UInt8.ofNat_toNat] at r
    rcases r with r | r <;> rw [r]
    · exact h0
    · exact hb i hi
  rw [e]
  exact hx _ _ (q 0 (by decide)) (hx _ _ (q 1 (by decide)) (hx _ _ (q 2 (by decide)) (hx _ _ (q 3 (by decide)) (hx _ _ (q 4 (by decide)) (hx _ _ (q 5 (by decide)) (hx _ _ (q 6 (by decide)) (q 7 (by decide))))))))
theorem lt128 (a : UInt8) : (a < 128) ↔ a.toBitVec.msb = false := by
  rw [BitVec.msb_eq_false_iff_two_mul_lt]
  have : (a < 128) ↔ a.toNat < 128 := UInt8.lt_iff_toNat_lt
  rw [this]
  show a.toNat < 128 ↔ 2 * a.toNat < 2 ^ 8
  omega
theorem dbl_xor (a b : UInt8) : (a ^^^ b) + (a ^^^ b) = (a + a) ^^^ (b + b) := by
  have h : ∀ c : UInt8, c + c = c <<< 1 := fun c => all8 (P := fun c => c + c = c <<< 1) (by decide +kernel) c
  rw [h, h, h]
  apply UInt8.toBitVec_inj.mp
  simp [BitVec.shiftLeft_xor_distrib]
theorem twice_xor (a b : UInt8) : twice (a ^^^ b) = twice a ^^^ twice b := by
  unfold twice
  simp only [lt128, UInt8.toBitVec_xor, BitVec.msb_xor, dbl_xor]
  cases a.toBitVec.msb <;> cases b.toBitVec.msb <;> simp [xor_assoc, xor_comm, xor_left_comm, xor_self, xor_cancel, xor_zero]
theorem twice_zero : twice 0 = 0 := by decide +kernel
theorem mulF_zero_left : ∀ n b, mulF n 0 b = 0
  | 0, _ => rfl
  | n + 1, b => by unfold mulF; rw [twice_zero, mulF_zero_left n, ite_self]; rfl
theorem mulF_xor_left : ∀ n (a a' b : UInt8), mulF n (a ^^^ a') b = mulF n a b ^^^ mulF n a' b
  | 0, _, _, _ => by show (0 : UInt8) = 0 ^^^ 0; rw [xor_self]
  | n + 1, a, a', b => by
    unfold mulF
    rw [twice_xor, mulF_xor_left n]
    by_cases h : b % 2 = 1
    · simp only [if_pos h]; rw [xor_assoc, xor_assoc, xor_left_comm a']
    · simp only [if_neg h, zero_xor]
theorem half_xor (b b' : UInt8) : (b ^^^ b') / 2 = b / 2 ^^^ b' / 2 := by
  apply UInt8.toNat_inj.mp
  simp only [UInt8.toNat_div, UInt8.toNat_xor]
  show (b.toNat ^^^ b'.toNat) / 2 = _
  rw [Nat.xor_div_two]; rfl
theorem odd_iff (b : UInt8) : b % 2 = 1 ↔ b.toNat % 2 = 1 := by
  rw [← UInt8.toNat_inj, UInt8.toNat_mod]; rfl
theorem odd_xor (b b' : UInt8) : ((b ^^^ b') % 2 = 1) ↔ ¬ ((b % 2 = 1) ↔ (b' % 2 = 1)) := by
  rw [odd_iff, odd_iff, odd_iff, UInt8.toNat_xor]
  have h := Nat.testBit_xor b.toNat b'.toNat 0
  simp only [Nat.testBit_zero] at h
  by_cases h1 : b.toNat % 2 = 1 <;> by_cases h2 : b'.toNat % 2 = 1 <;> simp [h1, h2] at h ⊢ <;> omega
theorem mulF_xor_right : ∀ n (a b b' : UInt8), mulF n a (b ^^^ b') = mulF n a b ^^^ mulF n a b'
  | 0, _, _, _ => by show (0 : UInt8) = 0 ^^^ 0; rw [xor_self]
  | n + 1, a, b, b' => by
    unfold mulF
    rw [half_xor, mulF_xor_right n]
    by_cases h : b % 2 = 1 <;> by_cases h' : b' % 2 = 1
    · have : ¬ ((b ^^^ b') % 2 = 1) := by rw [odd_xor]; simp [h, h']
      rw [if_neg this, if_pos h, if_pos h', zero_xor]
      rw [xor_assoc, xor_left_comm _ a, xor_cancel]
    · have : ((b ^^^ b') % 2 = 1) := by rw [odd_xor]; simp [h, h']
      rw [if_pos this, if_pos h, if_neg h', zero_xor, xor_assoc]
    · have : ((b ^^^ b') % 2 = 1) := by rw [odd_xor]; simp [h, h']
      rw [if_pos this, if_neg h, if_pos h', zero_xor, xor_left_comm]
    · have : ¬ ((b ^^^ b') % 2 = 1) := by rw [odd_xor]; simp [h, h']
      rw [if_neg this, if_neg h, if_neg h', zero_xor, zero_xor, zero_xor]
theorem mul_xor_left (a a' b : UInt8) : mul8 (a ^^^ a') b = mul8 a b ^^^ mul8 a' b := mulF_xor_left 8 a a' b
theorem mul_xor_right (a b b' : UInt8) : mul8 a (b ^^^ b') = mul8 a b ^^^ mul8 a b' := mulF_xor_right 8 a b b'
theorem zero_mul (b : UInt8) : mul8 0 b = 0 := mulF_zero_left 8 b
theorem mul_zero (a : UInt8) : mul8 a 0 = 0 := by
  have h := mul_xor_right a 0 0
  rw [xor_self, xor_self] at h
  exact h
theorem comm_dec : ∀ i, i < 8 → ∀ j, j < 8 → mul8 (UInt8.ofNat (2 ^ i)) (UInt8.ofNat (2 ^ j)) = mul8 (UInt8.ofNat (2 ^ j)) (UInt8.ofNat (2 ^ i)) := by decide +kernel
theorem mul_comm (a b : UInt8) : mul8 a b = mul8 b a := by
  revert b
  refine by_bits (P := fun a => ∀ b, mul8 a b = mul8 b a) ?_ ?_ ?_ a
  · intro b; rw [zero_mul, mul_zero]
  · intro a a' h h' b; rw [mul_xor_left, mul_xor_right, h, h']
  · intro i hi b
    refine by_bits (P := fun b => mul8 (UInt8.ofNat (2 ^ i)) b = mul8 b (UInt8.ofNat (2 ^ i))) ?_ ?_ ?_ b
    · rw [zero_mul, mul_zero]
    · intro a a' h h'; rw [mul_xor_left, mul_xor_right, h, h']
    · intro j hj; exact comm_dec i hi j hj
theorem assoc_dec : ∀ i, i < 8 → ∀ j, j < 8 → ∀ k, k < 8 → mul8 (mul8 (UInt8.ofNat (2 ^ i)) (UInt8.ofNat (2 ^ j))) (UInt8.ofNat (2 ^ k)) = mul8 (UInt8.ofNat (2 ^ i)) (mul8 (UInt8.ofNat (2 ^ j)) (UInt8.ofNat (2 ^ k))) := by decide +kernel
theorem mul_assoc (a b c : UInt8) : mul8 (mul8 a b) c = mul8 a (mul8 b c) := by
  revert b c
  refine by_bits (P := fun a => ∀ b c, mul8 (mul8 a b) c = mul8 a (mul8 b c)) ?_ ?_ ?_ a
  · intro b c; simp only [zero_mul]
  · intro a a' h h' b c; simp only [mul_xor_left, h, h']
  · intro i hi b
    refine by_bits (P := fun b => ∀ c, mul8 (mul8 (UInt8.ofNat (2 ^ i)) b) c = mul8 (UInt8.ofNat (2 ^ i)) (mul8 b c)) ?_ ?_ ?_ b
    · intro c; simp only [zero_mul, mul_zero]
    · intro a a' h h' c; simp only [mul_xor_left, mul_xor_right, h, h']
    · intro j hj c
      refine by_bits (P := fun c => mul8 (mul8 (UInt8.ofNat (2 ^ i)) (UInt8.ofNat (2 ^ j))) c = mul8 (UInt8.ofNat (2 ^ i)) (mul8 (UInt8.ofNat (2 ^ j)) c)) ?_ ?_ ?_ c
      · simp only [mul_zero]
      · intro a a' h h'; simp only [mul_xor_right, h, h']
      · intro k hk; exact assoc_dec i hi j hj k hk
theorem mul_left_comm (a b c : UInt8) : mul8 a (mul8 b c) = mul8 b (mul8 a c) := by
  rw [← mul_assoc, mul_comm a b, mul_assoc]
theorem one_dec : ∀ n, n < 256 → mul8 1 (UInt8.ofNat n) = UInt8.ofNat n := by decide +kernel
theorem one_mul (a : UInt8) : mul8 1 a = a := all8 (P := fun a => mul8 1 a = a) one_dec a
theorem mul_one (a : UInt8) : mul8 a 1 = a := by rw [mul_comm, one_mul]
theorem inv_dec : ∀ n, n < 256 → (UInt8.ofNat n ≠ 0 → mul8 (inv8 (UInt8.ofNat n)) (UInt8.ofNat n) = 1) := by decide +kernel
theorem inv_mul {a : UInt8} (h : a ≠ 0) : mul8 (inv8 a) a = 1 := all8 (P := fun a => a ≠ 0 → mul8 (inv8 a) a = 1) inv_dec a h
theorem mul_inv {a : UInt8} (h : a ≠ 0) : mul8 a (inv8 a) = 1 := by rw [mul_comm, inv_mul h]
theorem inv_mul_cancel {a : UInt8} (h : a ≠ 0) (b : UInt8) : mul8 (inv8 a) (mul8 a b) = b := by rw [← mul_assoc, inv_mul h, one_mul]
theorem mul_eq_zero {a b : UInt8} (h : mul8 a b = 0) (ha : a ≠ 0) : b = 0 := by
  have := inv_mul_cancel ha b
  rw [h, mul_zero] at this
  exact this.symm
theorem inv_ne {a : UInt8} (h : a ≠ 0) : inv8 a ≠ 0 := by
  intro e
  have := inv_mul h
  rw [e, zero_mul] at this
  exact absurd this (by decide)
theorem mul_left_inj {a b c : UInt8} (ha : a ≠ 0) (h : mul8 a b = mul8 a c) : b = c := by
  rw [← inv_mul_cancel ha b, h, inv_mul_cancel ha c]
end Fld
end
section
namespace Pol
open Sp Fld
def ev (x : UInt8) : List UInt8 → UInt8
  | [] => 0
  | c :: r => c ^^^ mul8 x (ev x r)
def wrA (p : UInt8) : UInt8 → List UInt8 → List UInt8
  | prev, [] => [prev]
  | prev, c :: r => (prev ^^^ mul8 p c) :: wrA p c r
def wr (p : UInt8) : List UInt8 → List UInt8
  | [] => []
  | c :: r => mul8 p c :: wrA p c r
theorem wrA_len (p : UInt8) : ∀ (r : List UInt8) (c : UInt8), (wrA p c r).length = r.length + 1
  | [], _ => rfl
  | c :: r, _ => by show (wrA p c r).length + 1 = _; rw [wrA_len p r]; rfl
theorem ev_wrA (p x : UInt8) : ∀ (r : List UInt8) (c : UInt8), ev x (wrA p c r) = c ^^^ mul8 (x ^^^ p) (ev x r)
  | [], c => by simp [wrA, ev, mul_zero]
  | c :: r, prev => by
    simp only [wrA, ev, ev_wrA p x r c, mul_xor_right, mul_xor_left]
    simp only [xor_assoc, mul_left_comm x p]
    congr 1
    simp only [xor_left_comm, xor_comm]
theorem ev_wr (p x : UInt8) : ∀ (r : List UInt8), ev x (wr p r) = mul8 (x ^^^ p) (ev x r)
  | [] => by simp [wr, ev, mul_zero]
  | c :: r => by
    simp only [wr, ev, ev_wrA p x r c, mul_xor_right, mul_xor_left]
    simp only [xor_assoc, mul_left_comm x p]
    simp only [xor_left_comm, xor_comm]
theorem wr_len (p : UInt8) (c : UInt8) (r : List UInt8) : (wr p (c :: r)).length = r.length + 2 := by
  show (wrA p c r).length + 1 = _; rw [wrA_len]
def quo (a : UInt8) : List UInt8 → List UInt8
  | [] => []
  | [_] => []
  | _ :: b :: r => ev a (b :: r) :: quo a (b :: r)
theorem quo_len (a : UInt8) : ∀ l : List UInt8, (quo a l).length = l.length - 1
  | [] => rfl
  | [_] => rfl
  | _ :: b :: r => by
    show (quo a (b :: r)).length + 1 = _
    rw [quo_len a (b :: r)]; simp
theorem ev_quo (a x : UInt8) : ∀ l : List UInt8, ev x l = mul8 (x ^^^ a) (ev x (quo a l)) ^^^ ev a l
  | [] => by simp [quo, ev, mul_zero]
  | [c] => by simp [quo, ev, mul_zero]
  | c :: b :: r => by
    have ih := ev_quo a x (b :: r)
    show c ^^^ mul8 x (ev x (b :: r)) = mul8 (x ^^^ a) (ev a (b :: r) ^^^ mul8 x (ev x (quo a (b :: r)))) ^^^ (c ^^^ mul8 a (ev a (b :: r)))
    generalize ev a (b :: r) = E at ih ⊢
    rw [ih]
    generalize ev x (quo a (b :: r)) = Q
    simp only [mul_xor_right, mul_xor_left, xor_assoc, mul_left_comm x a]
    generalize mul8 a E = u; generalize mul8 x E = v; generalize mul8 x (mul8 x Q) = m; generalize mul8 a (mul8 x Q) = n
    simp only [xor_assoc, xor_left_comm, xor_comm, xor_cancel]
theorem quo_zero (a : UInt8) : ∀ l : List UInt8, (∀ c ∈ quo a l, c = 0) → ev a l = 0 → ∀ c ∈ l, c = 0
  | [], _, _ => fun c h => nomatch h
  | [c], _, h => fun d hd => by
    have : d = c := by simpa using hd
    subst this; simpa [ev, mul_zero] using h
  | c :: b :: r, hq, h => by
    have h1 : ev a (b :: r) = 0 := hq _ (List.mem_cons_self ..)
    have h2 := quo_zero a (b :: r) (fun d hd => hq d (List.mem_cons_of_mem _ hd)) h1
    have h3 : c ^^^ mul8 a (ev a (b :: r)) = 0 := h
    rw [h1, mul_zero, xor_zero] at h3
    intro d hd
    rcases List.mem_cons.mp hd with e | e
    · rw [e, h3]
    · exact h2 d e
theorem roots_zero : ∀ (ps l : List UInt8), ps.Nodup → l.length ≤ ps.length → (∀ p ∈ ps, ev p l = 0) → ∀ c ∈ l, c = 0
  | [], [], _, _, _ => fun c h => nomatch h
  | [], _ :: _, _, h, _ => by simp at h
  | p :: ps, l, hn, hl, hr => by
    have h0 := hr p (List.mem_cons_self ..)
    refine quo_zero p l (roots_zero ps (quo p l) (List.nodup_cons.mp hn).2 (by rw [quo_len]; simp at hl; omega) ?_) h0
    intro q hq
    have h1 := hr q (List.mem_cons_of_mem _ hq)
    rw [ev_quo p q, h0, xor_zero] at h1
    refine mul_eq_zero h1 ?_
    intro e
    have := xor_eq_zero.mp e
    subst this
    exact (List.nodup_cons.mp hn).1 hq
theorem ev_xor (x : UInt8) : ∀ (a b : List UInt8), a.length = b.length → ev x (List.zipWith (· ^^^ ·) a b) = ev x a ^^^ ev x b
  | [], [], _ => by simp [ev]
  | c :: a, d :: b, h => by
    simp only [List.zipWith_cons_cons, ev, ev_xor x a b (by simpa using h), mul_xor_right]
    simp only [xor_assoc, xor_left_comm]
theorem poly_eq {ps a b : List UInt8} (hn : ps.Nodup) (ha : a.length ≤ ps.length) (hab : a.length = b.length) (h : ∀ p ∈ ps, ev p a = ev p b) : a = b := by
  have h0 := roots_zero ps (List.zipWith (· ^^^ ·) a b) hn (by simp; omega) (fun p hp => by rw [ev_xor p a b hab, h p hp, xor_self])
  refine List.ext_getElem hab fun i h1 h2 => ?_
  have := h0 (a[i] ^^^ b[i]) (by
    rw [List.mem_iff_getElem]
    exact ⟨i, by simp; omega, by simp⟩)
  exact xor_eq_zero.mp this
section
variable (p v : Nat → UInt8)
def dd : Nat → Nat → UInt8
  | 0, a => v a
  | g + 1, a => mul8 (inv8 (p a ^^^ p (a + (g + 1)))) (dd g a ^^^ dd g (a + 1))
def om (x : UInt8) : Nat → Nat → UInt8
  | _, 0 => 1
  | a, g + 1 => mul8 (om x a g) (x ^^^ p (a + g))
def nw (x : UInt8) (a : Nat) : Nat → UInt8
  | 0 => v a
  | g + 1 => nw x a g ^^^ mul8 (om p x a (g + 1)) (dd p v (g + 1) a)
end
section
variable {p v : Nat → UInt8} {m : Nat} (hp : ∀ i j, i < m → j < m → i ≠ j → p i ≠ p j)
theorem om_front (x : UInt8) : ∀ g a, om p x a (g + 1) = mul8 (x ^^^ p a) (om p x (a + 1) g)
  | 0, a => by simp [om, one_mul, mul_one]
  | g + 1, a => by
    rw [om, om_front x g a, om, show a + 1 + g = a + (g + 1) by omega, mul_assoc]
theorem om_zero (x : UInt8) : ∀ g a i, i < g → x = p (a + i) → om p x a g = 0
  | g + 1, a, i, hi, e => by
    unfold om
    by_cases h : i = g
    · subst h; rw [e, xor_self, mul_zero]
    · rw [om_zero x g a i (by omega) e, zero_mul]
include hp in
theorem dd_mul {g a : Nat} (h : a + (g + 1) < m) : mul8 (p a ^^^ p (a + (g + 1))) (dd p v (g + 1) a) = dd p v g a ^^^ dd p v g (a + 1) := by
  have hne : p a ^^^ p (a + (g + 1)) ≠ 0 := fun e => hp a (a + (g + 1)) (by omega) h (by omega) (xor_eq_zero.mp e)
  show mul8 _ (mul8 (inv8 _) _) = _
  rw [← mul_assoc, mul_inv hne, one_mul]
include hp in
theorem nw_back (x : UInt8) : ∀ g a, a + (g + 1) < m → nw p v x a (g + 1) = nw p v x (a + 1) g ^^^ mul8 (om p x (a + 1) (g + 1)) (dd p v (g + 1) a)
  | 0, a, h => by
    have h1 := dd_mul hp (v := v) (g := 0) (a := a) h
    simp only [nw, om, one_mul, Nat.add_zero, Nat.zero_add] at h1 ⊢
    have e0 : dd p v 0 a = v a := rfl
    have e1 : dd p v 0 (a + 1) = v (a + 1) := rfl
    rw [e0, e1] at h1
    generalize dd p v 1 a = D at h1 ⊢
    rw [mul_xor_left] at h1 ⊢
    rw [mul_xor_left]
    have : v a = (mul8 (p a) D ^^^ mul8 (p (a + 1)) D) ^^^ v (a + 1) := by rw [h1, xor_assoc, xor_self, xor_zero]
    rw [this]
    generalize mul8 (p a) D = A; generalize mul8 (p (a + 1)) D = B; generalize mul8 x D = C
    simp only [xor_assoc, xor_left_comm, xor_comm, xor_cancel]
  | g + 1, a, h => by
    have h1 := dd_mul hp (v := v) (g := g + 1) (a := a) h
    have ih := nw_back x g a (by omega)
    show nw p v x a (g + 1) ^^^ mul8 (om p x a (g + 1 + 1)) (dd p v (g + 1 + 1) a) = (nw p v x (a + 1) g ^^^ mul8 (om p x (a + 1) (g + 1)) (dd p v (g + 1) (a + 1))) ^^^ _
    rw [ih, om_front x (g + 1) a]
    rw [show om p x (a + 1) (g + 1 + 1) = mul8 (om p x (a + 1) (g + 1)) (x ^^^ p (a + (g + 1 + 1))) by
      conv => lhs; unfold om
      rw [show a + 1 + (g + 1) = a + (g + 1 + 1) by omega]]
    generalize om p x (a + 1) (g + 1) = W
    generalize dd p v (g + 1 + 1) a = D at h1 ⊢
    generalize nw p v x (a + 1) g = N
    have h2 : dd p v (g + 1) a = (mul8 (p a) D ^^^ mul8 (p (a + (g + 1 + 1))) D) ^^^ dd p v (g + 1) (a + 1) := by
      rw [← mul_xor_left, h1, xor_assoc, xor_self, xor_zero]
    rw [h2]
    generalize dd p v (g + 1) (a + 1) = F
    generalize p (a + (g + 1 + 1)) = r
    generalize p a = s
    simp only [mul_xor_left, mul_xor_right, mul_assoc, mul_left_comm W]
    simp only [mul_left_comm, mul_comm]
    simp only [xor_assoc, xor_left_comm, xor_comm, xor_cancel, xor_self, xor_zero, zero_xor]
include hp in
theorem nw_at : ∀ g a i, a + g < m → i ≤ g → nw p v (p (a + i)) a g = v (a + i)
  | 0, a, i, _, hi => by
    have : i = 0 := by omega
    subst this; rfl
  | g + 1, a, i, h, hi => by
    by_cases e : i = g + 1
    · subst e
      rw [nw_back hp _ g a h, om_zero (p := p) _ (g + 1) (a + 1) g (by omega) (by rw [show a + (g + 1) = a + 1 + g by omega]), zero_mul, xor_zero]
      have := nw_at g (a + 1) g (by omega) (by omega)
      rw [show a + 1 + g = a + (g + 1) by omega] at this
      exact this
    · unfold nw
      rw [om_zero (p := p) _ (g + 1) a i (by omega) rfl, zero_mul, xor_zero]
      exact nw_at g a i (by omega) (by omega)
end
section
variable (p f : Nat → UInt8)
def addC (c : UInt8) : List UInt8 → List UInt8
  | [] => []
  | b :: r => (b ^^^ c) :: r
def horner (m : Nat) : Nat → List UInt8
  | 0 => [f (m - 1)]
  | j + 1 => addC (f (m - 1 - (j + 1))) (wr (p (m - 1 - (j + 1))) (horner m j))
end
theorem addC_len (c : UInt8) (l : List UInt8) : (addC c l).length = l.length := by cases l <;> rfl
theorem ev_addC (x c : UInt8) (b : UInt8) (r : List UInt8) : ev x (addC c (b :: r)) = c ^^^ ev x (b :: r) := by
  show (b ^^^ c) ^^^ _ = c ^^^ (b ^^^ _)
  rw [xor_comm b c, xor_assoc]
theorem horner_len (p f : Nat → UInt8) (m : Nat) : ∀ j, (horner p f m j).length = j + 1
  | 0 => rfl
  | j + 1 => by
    show (addC _ (wr _ (horner p f m j))).length = _
    rw [addC_len]
    have := horner_len p f m j
    cases h : horner p f m j with
    | nil => rw [h] at this; simp at this
    | cons c r => rw [h] at this; rw [wr_len]; simp at this; omega
def tl (p f : Nat → UInt8) (x : UInt8) (m : Nat) : Nat → UInt8
  | 0 => f (m - 1)
  | j + 1 => f (m - 1 - (j + 1)) ^^^ mul8 (x ^^^ p (m - 1 - (j + 1))) (tl p f x m j)
theorem ev_horner (p f : Nat → UInt8) (x : UInt8) (m : Nat) : ∀ j, ev x (horner p f m j) = tl p f x m j
  | 0 => by simp [horner, ev, tl, mul_zero]
  | j + 1 => by
    show ev x (addC _ (wr _ (horner p f m j))) = _
    have hl := horner_len p f m j
    cases h : horner p f m j with
    | nil => rw [h] at hl; simp at hl
    | cons c r =>
      have hw : wr (p (m - 1 - (j + 1))) (c :: r) = mul8 (p (m - 1 - (j + 1))) c :: wrA (p (m - 1 - (j + 1))) c r := rfl
      rw [hw, ev_addC, ← hw, ev_wr, ← h, ev_horner p f x m j]
      rfl
theorem nw_tl (p v : Nat → UInt8) (x : UInt8) (m : Nat) : ∀ j, j + 1 ≤ m → nw p v x 0 (m - 1) = (match m - 1 - j with | 0 => 0 | g + 1 => nw p v x 0 g) ^^^ mul8 (om p x 0 (m - 1 - j)) (tl p (fun g => dd p v g 0) x m j)
  | 0, h => by
    cases e : m - 1 with
    | zero => simp [nw, om, one_mul, tl, e, dd]
    | succ g => simp [nw, tl, e]
  | j + 1, h => by
    rw [nw_tl p v x m j (by omega)]
    have e1 : m - 1 - j = (m - 1 - (j + 1)) + 1 := by omega
    rw [e1]
    generalize m - 1 - (j + 1) = g at e1 ⊢
    show nw p v x 0 g ^^^ mul8 (mul8 (om p x 0 g) (x ^^^ p (0 + g))) _ = _
    have ht : tl p (fun g => dd p v g 0) x m (j + 1) = dd p v (m - 1 - (j + 1)) 0 ^^^ mul8 (x ^^^ p (m - 1 - (j + 1))) (tl p (fun g => dd p v g 0) x m j) := rfl
    have e2 : m - 1 - (j + 1) = g := by omega
    rw [ht, e2]
    generalize tl p (fun g => dd p v g 0) x m j = T
    cases g with
    | zero => simp [nw, om, one_mul, dd]
    | succ g =>
      show (nw p v x 0 g ^^^ mul8 (om p x 0 (g + 1)) (dd p v (g + 1) 0)) ^^^ _ = nw p v x 0 g ^^^ _
      rw [xor_assoc, mul_assoc, Nat.zero_add, ← mul_xor_right]
def through (p v : Nat → UInt8) (m : Nat) : List UInt8 := horner p (fun g => dd p v g 0) m (m - 1)
theorem through_len (p v : Nat → UInt8) {m : Nat} (h : 0 < m) : (through p v m).length = m := by
  unfold through; rw [horner_len]; omega
theorem through_at {p v : Nat → UInt8} {m : Nat} (hp : ∀ i j, i < m → j < m → i ≠ j → p i ≠ p j) {i : Nat} (h : i < m) : ev (p i) (through p v m) = v i := by
  unfold through
  rw [ev_horner]
  have h1 := nw_tl p v (p i) m (m - 1) (by omega)
  rw [Nat.sub_self] at h1
  simp only [om, one_mul, zero_xor] at h1
  rw [← h1]
  have := nw_at hp (v := v) (m - 1) 0 i (by omega) (by omega)
  rw [Nat.zero_add] at this
  exact this
theorem through_of {p v : Nat → UInt8} {m : Nat} (hp : ∀ i j, i < m → j < m → i ≠ j → p i ≠ p j) {l : List UInt8} (hl : l.length = m) (h0 : 0 < m) (hv : ∀ i, i < m → v i = ev (p i) l) : through p v m = l := by
  refine poly_eq (ps := (List.range m).map p) ?_ ?_ ?_ ?_
  · refine List.pairwise_map.mpr (List.Pairwise.imp_of_mem ?_ List.pairwise_lt_range)
    intro i j hi hj hij
    rw [List.mem_range] at hi hj
    exact hp i j hi hj (by omega)
  · rw [through_len p v h0]; simp
  · rw [through_len p v h0, hl]
  · intro q hq
    obtain ⟨i, hi, rfl⟩ := List.mem_map.mp hq
    rw [List.mem_range] at hi
    rw [through_at hp hi, hv i hi]
end Pol
end
section
namespace Gau
open Sp Fld
def xsum : Nat → (Nat → UInt8) → UInt8
  | 0, _ => 0
  | n + 1, f => xsum n f ^^^ f n
theorem xsum_congr : ∀ {n : Nat} {f g : Nat → UInt8}, (∀ i, i < n → f i = g i) → xsum n f = xsum n g
  | 0, _, _, _ => rfl
  | n + 1, f, g, h => by
    show xsum n f ^^^ f n = xsum n g ^^^ g n
    rw [xsum_congr (fun i hi => h i (by omega)), h n (by omega)]
theorem xsum_xor (f g : Nat → UInt8) : ∀ n, xsum n (fun i => f i ^^^ g i) = xsum n f ^^^ xsum n g
  | 0 => by simp [xsum]
  | n + 1 => by
    show xsum n (fun i => f i ^^^ g i) ^^^ (f n ^^^ g n) = (xsum n f ^^^ f n) ^^^ (xsum n g ^^^ g n)
    rw [xsum_xor f g n]; simp only [xor_assoc, xor_left_comm]
theorem xsum_mul (a : UInt8) (f : Nat → UInt8) : ∀ n, xsum n (fun i => mul8 a (f i)) = mul8 a (xsum n f)
  | 0 => by simp [xsum, mul_zero]
  | n + 1 => by
    show xsum n (fun i => mul8 a (f i)) ^^^ mul8 a (f n) = mul8 a (xsum n f ^^^ f n)
    rw [xsum_mul a f n, mul_xor_right]
theorem xsum_zero : ∀ {n : Nat} {f : Nat → UInt8}, (∀ i, i < n → f i = 0) → xsum n f = 0
  | 0, _, _ => rfl
  | n + 1, f, h => by
    show xsum n f ^^^ f n = 0
    rw [xsum_zero (fun i hi => h i (by omega)), h n (by omega), xor_self]
theorem xsum_one {j : Nat} : ∀ {n : Nat} {f : Nat → UInt8}, j < n → (∀ i, i < n → i ≠ j → f i = 0) → xsum n f = f j
  | n + 1, f, hj, h => by
    show xsum n f ^^^ f n = f j
    by_cases e : j = n
    · subst e; rw [xsum_zero (fun i hi => h i (by omega) (by omega)), zero_xor]
    · rw [xsum_one (by omega) (fun i hi hn => h i (by omega) hn), h n (by omega) (by omega), xor_zero]
theorem xsum_two {j c n : Nat} {f : Nat → UInt8} (hj : j < n) (hc : c < n) (hjc : j ≠ c) (h : ∀ i, i < n → i ≠ j → i ≠ c → f i = 0) : xsum n f = f j ^^^ f c := by
  have e1 : xsum n f = xsum n (fun i => (if i = j then f j else 0) ^^^ (if i = c then f c else 0)) := xsum_congr fun i hi => by
    by_cases h1 : i = j
    · subst h1; simp [hjc]
    · by_cases h2 : i = c
      · subst h2; simp [h1]
      · simp [h1, h2, h i hi h1 h2]
  rw [e1, xsum_xor, xsum_one (j := j) hj (fun i _ hn => by simp [hn]), xsum_one (j := c) hc (fun i _ hn => by simp [hn])]
  simp
def dot (a : List UInt8) (x : Nat → UInt8) : UInt8 := xsum a.length fun i => mul8 (a.getD i 0) (x i)
theorem getD_map0 (s : UInt8) (a : List UInt8) (i : Nat) : (a.map (mul8 s)).getD i 0 = mul8 s (a.getD i 0) := by
  simp only [List.getD_eq_getElem?_getD, List.getElem?_map]
  cases a[i]? <;> simp [mul_zero]
theorem getD_zip0 (s : UInt8) {a b : List UInt8} (h : a.length = b.length) (i : Nat) : (List.zipWith (fun (x y : UInt8) => x ^^^ mul8 s y) a b).getD i 0 = a.getD i 0 ^^^ mul8 s (b.getD i 0) := by
  simp only [List.getD_eq_getElem?_getD, List.getElem?_zipWith]
  by_cases hi : i < a.length
  · rw [List.getElem?_eq_getElem hi, List.getElem?_eq_getElem (h ▸ hi)]; rfl
  · rw [List.getElem?_eq_none (by omega), List.getElem?_eq_none (by omega)]; simp [mul_zero]
theorem dot_map (s : UInt8) (a : List UInt8) (x : Nat → UInt8) : dot (a.map (mul8 s)) x = mul8 s (dot a x) := by
  unfold dot
  rw [List.length_map, ← xsum_mul]
  exact xsum_congr fun i _ => by rw [getD_map0, mul_assoc]
theorem dot_zip (s : UInt8) {a b : List UInt8} (h : a.length = b.length) (x : Nat → UInt8) : dot (List.zipWith (fun (x y : UInt8) => x ^^^ mul8 s y) a b) x = dot a x ^^^ mul8 s (dot b x) := by
  unfold dot
  rw [List.length_zipWith, ← h, Nat.min_self, ← xsum_mul, ← xsum_xor]
  exact xsum_congr fun i _ => by rw [getD_zip0 s h, mul_xor_left, mul_assoc]
section
variable (n L : Nat)
def Wf (e : Eq_) : Prop := e.1.length = n ∧ e.2.length = L
def Sat (t : Nat) (x : Nat → UInt8) (e : Eq_) : Prop := dot e.1 x = e.2.getD t 0
def Ker (x : Nat → UInt8) (e : Eq_) : Prop := dot e.1 x = 0
end
section
variable {n L : Nat}
theorem wf_scale {a : UInt8} {e : Eq_} (h : Wf n L e) : Wf n L (scaleEq a e) := by
  unfold Wf scaleEq scale; simp [h.1, h.2]
theorem wf_clear {c : Nat} {p e : Eq_} (hp : Wf n L p) (h : Wf n L e) : Wf n L (clear c p e) := by
  unfold clear
  dsimp only
  split
  · exact h
  · unfold Wf; simp [h.1, h.2, hp.1, hp.2]
theorem factor_scale {a : UInt8} {e : Eq_} {i : Nat} : factor (scaleEq a e) i = mul8 a (factor e i) := getD_map0 a e.1 i
theorem factor_clear {c i : Nat} {p e : Eq_} (hp : Wf n L p) (h : Wf n L e) : factor (clear c p e) i = factor e i ^^^ mul8 (factor e c) (factor p i) := by
  unfold clear
  dsimp only
  split
  · rename_i h0; rw [h0, zero_mul, xor_zero]
  · exact getD_zip0 _ (by rw [h.1, hp.1]) i
theorem sat_scale {t : Nat} {x : Nat → UInt8} {a : UInt8} (ha : a ≠ 0) {e : Eq_} : Sat t x (scaleEq a e) ↔ Sat t x e := by
  unfold Sat scaleEq scale
  show dot (e.1.map (mul8 a)) x = (e.2.map (mul8 a)).getD t 0 ↔ _
  rw [dot_map, getD_map0]
  exact ⟨fun h => mul_left_inj ha h, fun h => by rw [h]⟩
theorem sat_clear {t c : Nat} {x : Nat → UInt8} {p e : Eq_} (hp : Wf n L p) (h : Wf n L e) (hs : Sat t x p) : Sat t x (clear c p e) ↔ Sat t x e := by
  unfold clear
  dsimp only
  split
  · exact Iff.rfl
  · unfold Sat at hs ⊢
    dsimp only
    rw [dot_zip _ (by rw [h.1, hp.1]), getD_zip0 _ (by rw [h.2, hp.2]), hs]
    generalize mul8 (factor e c) (p.2.getD t 0) = u
    constructor
    · intro q
      have := congrArg (· ^^^ u) q
      simpa only [xor_assoc, xor_self, xor_zero] using this
    · intro q; rw [q]
theorem ker_scale {x : Nat → UInt8} {a : UInt8} (ha : a ≠ 0) {e : Eq_} : Ker x (scaleEq a e) ↔ Ker x e := by
  unfold Ker scaleEq
  dsimp only
  rw [dot_map]
  exact ⟨fun h => mul_eq_zero h ha, fun h => by rw [h, mul_zero]⟩
theorem ker_clear {c : Nat} {x : Nat → UInt8} {p e : Eq_} (hp : Wf n L p) (h : Wf n L e) (hs : Ker x p) : Ker x (clear c p e) ↔ Ker x e := by
  unfold clear
  dsimp only
  split
  · exact Iff.rfl
  · unfold Ker at hs ⊢
    dsimp only
    rw [dot_zip _ (by rw [h.1, hp.1]), hs, mul_zero, xor_zero]
theorem turn_all {Q : Eq_ → Prop} {c i : Nat} {d r : List Eq_} (hi : i < r.length) {p : Eq_} (hp : Q p ↔ Q r[i]) (hc : ∀ e, e ∈ d ∨ e ∈ r → Q p → (Q (clear c p e) ↔ Q e)) :
    (∀ e ∈ (d.map (clear c p) ++ [p]) ++ (r.eraseIdx i).map (clear c p), Q e) ↔ (∀ e ∈ d ++ r, Q e) := by
  have hr : ∀ e, e ∈ r ↔ e = r[i] ∨ e ∈ r.eraseIdx i := by
    intro e
    constructor
    · intro h
      obtain ⟨j, hj, rfl⟩ := List.mem_iff_getElem.mp h
      by_cases hji : j = i
      · subst hji; exact Or.inl rfl
      · exact Or.inr (List.mem_eraseIdx_iff_getElem.mpr ⟨j, hj, hji, rfl⟩)
    · rintro (rfl | h)
      · exact List.getElem_mem hi
      · exact List.mem_of_mem_eraseIdx h
  constructor
  · intro h
    have q : Q p := h p (by simp)
    intro e he
    rcases List.mem_append.mp he with h1 | h1
    · exact (hc e (.inl h1) q).mp (h _ (by simp only [List.mem_append, List.mem_map]; exact .inl (.inl ⟨e, h1, rfl⟩)))
    · rcases (hr e).mp h1 with rfl | h2
      · exact hp.mp q
      · exact (hc e (.inr h1) q).mp (h _ (by simp only [List.mem_append, List.mem_map]; exact .inr ⟨e, h2, rfl⟩))
  · intro h
    have q : Q p := hp.mpr (h _ (by simp [List.getElem_mem hi]))
    intro e he
    rcases List.mem_append.mp he with h1 | h1
    · rcases List.mem_append.mp h1 with h2 | h2
      · obtain ⟨e0, h3, rfl⟩ := List.mem_map.mp h2
        exact (hc e0 (.inl h3) q).mpr (h e0 (by simp [h3]))
      · rw [List.mem_singleton.mp h2]; exact q
    · obtain ⟨e0, h3, rfl⟩ := List.mem_map.mp h1
      have h4 := (hr e0).mpr (.inr h3)
      exact (hc e0 (.inr h4) q).mpr (h e0 (by simp [h4]))
structure St (n L c : Nat) (d r : List Eq_) : Prop where
  len : d.length = c
  wd : ∀ e ∈ d, Wf n L e
  wr : ∀ e ∈ r, Wf n L e
  unit : ∀ j (hj : j < d.length) i, i < c → factor d[j] i = if i = j then 1 else 0
  zero : ∀ e ∈ r, ∀ i, i < c → factor e i = 0
theorem St.turn {c i : Nat} {d r : List Eq_} (S : St n L c d r) (hi : i < r.length) (hf : factor r[i] c ≠ 0) :
    St n L (c + 1) (d.map (clear c (scaleEq (inv8 (factor r[i] c)) r[i])) ++ [scaleEq (inv8 (factor r[i] c)) r[i]]) ((r.eraseIdx i).map (clear c (scaleEq (inv8 (factor r[i] c)) r[i]))) := by
  have hm : r[i] ∈ r := List.getElem_mem hi
  generalize hpe : scaleEq (inv8 (factor r[i] c)) r[i] = p
  have wp : Wf n L p := by rw [← hpe]; exact wf_scale (S.wr _ hm)
  have p0 : ∀ j, j < c → factor p j = 0 := fun j hj => by rw [← hpe, factor_scale, S.zero _ hm j hj, mul_zero]
  have pc : factor p c = 1 := by rw [← hpe, factor_scale, inv_mul hf]
  refine ⟨by simp [S.len], ?_, ?_, ?_, ?_⟩
  · intro e he
    rcases List.mem_append.mp he with h1 | h1
    · obtain ⟨e0, h2, rfl⟩ := List.mem_map.mp h1; exact wf_clear wp (S.wd _ h2)
    · rw [List.mem_singleton.mp h1]; exact wp
  · intro e he
    obtain ⟨e0, h2, rfl⟩ := List.mem_map.mp he
    exact wf_clear wp (S.wr _ (List.mem_of_mem_eraseIdx h2))
  · intro j hj k hk
    by_cases hjc : j < d.length
    · rw [List.getElem_append_left (by simpa using hjc), List.getElem_map, factor_clear wp (S.wd _ (List.getElem_mem hjc))]
      by_cases hkc : k < c
      · rw [p0 k hkc, mul_zero, xor_zero, S.unit j hjc k hkc]
      · have : k = c := by omega
        subst this
        rw [pc, mul_one, xor_self, if_neg (by have := S.len; omega)]
    · have hl := S.len
      have : j = c := by simp at hj; omega
      subst this
      rw [List.getElem_append_right (by simp; omega)]
      simp only [List.getElem_singleton]
      by_cases hkc : k < j
      · rw [p0 k hkc, if_neg (by omega)]
      · have : k = j := by omega
        subst this
        rw [pc, if_pos rfl]
  · intro e he k hk
    obtain ⟨e0, h2, rfl⟩ := List.mem_map.mp he
    have h3 := List.mem_of_mem_eraseIdx h2
    rw [factor_clear wp (S.wr _ h3)]
    by_cases hkc : k < c
    · rw [p0 k hkc, mul_zero, xor_zero, S.zero e0 h3 k hkc]
    · have : k = c := by omega
      subst this
      rw [pc, mul_one, xor_self]
theorem turn_sat {t c i : Nat} {x : Nat → UInt8} {d r : List Eq_} (S : St n L c d r) (hi : i < r.length) (hf : factor r[i] c ≠ 0) :
    (∀ e ∈ (d.map (clear c (scaleEq (inv8 (factor r[i] c)) r[i])) ++ [scaleEq (inv8 (factor r[i] c)) r[i]]) ++ (r.eraseIdx i).map (clear c (scaleEq (inv8 (factor r[i] c)) r[i])), Sat t x e) ↔ (∀ e ∈ d ++ r, Sat t x e) :=
  turn_all hi (sat_scale (inv_ne hf)) fun e he q => sat_clear (wf_scale (S.wr _ (List.getElem_mem hi))) (he.elim (S.wd e) (S.wr e)) q
theorem turn_ker {c i : Nat} {x : Nat → UInt8} {d r : List Eq_} (S : St n L c d r) (hi : i < r.length) (hf : factor r[i] c ≠ 0) :
    (∀ e ∈ (d.map (clear c (scaleEq (inv8 (factor r[i] c)) r[i])) ++ [scaleEq (inv8 (factor r[i] c)) r[i]]) ++ (r.eraseIdx i).map (clear c (scaleEq (inv8 (factor r[i] c)) r[i])), Ker x e) ↔ (∀ e ∈ d ++ r, Ker x e) :=
  turn_all hi (ker_scale (inv_ne hf)) fun e he q => ker_clear (wf_scale (S.wr _ (List.getElem_mem hi))) (he.elim (S.wd e) (S.wr e)) q
theorem ker_some {c : Nat} (hc : c < n) {d r : List Eq_} (S : St n L c d r) (h : ∀ e ∈ r, factor e c = 0) :
    ∃ x : Nat → UInt8, x c = 1 ∧ ∀ e ∈ d ++ r, Ker x e := by
  refine ⟨fun i => if h : i < d.length then factor d[i] c else if i = c then 1 else 0, ?_, ?_⟩
  · have := S.len
    simp [this]
  · intro e he
    have hl := S.len
    rcases List.mem_append.mp he with h1 | h1
    · obtain ⟨j, hj, rfl⟩ := List.mem_iff_getElem.mp h1
      unfold Ker dot
      rw [(S.wd _ h1).1, xsum_two (j := j) (c := c) (by omega) hc (by omega) ?_]
      · have u1 := S.unit j hj j (by omega)
        unfold factor at u1
        rw [if_pos rfl] at u1
        have u2 : ¬ c < d.length := by omega
        simp only [hj, u2, dif_pos, dif_neg, not_false_eq_true, if_pos, u1, one_mul, mul_one]
        exact xor_self _
      · intro i hi h2 h3
        by_cases h4 : i < c
        · have u1 := S.unit j hj i h4
          unfold factor at u1
          rw [u1, if_neg h2, zero_mul]
        · have u2 : ¬ i < d.length := by omega
          simp only [u2, dif_neg, not_false_eq_true, if_neg h3, mul_zero]
    · unfold Ker dot
      refine xsum_zero fun i hi => ?_
      by_cases h4 : i < c
      · have := S.zero e h1 i h4
        unfold factor at this
        rw [this, zero_mul]
      · by_cases h5 : i = c
        · subst h5
          have := h e h1
          unfold factor at this
          rw [this, zero_mul]
        · have u2 : ¬ i < d.length := by omega
          simp only [u2, dif_neg, not_false_eq_true, if_neg h5, mul_zero]
def col (X : List Bytes) (t i : Nat) : UInt8 := (X.getD i []).getD t 0
theorem end_sat {d r : List Eq_} (S : St n L n d r) {t : Nat} {x : Nat → UInt8} :
    (∀ e ∈ d ++ r, Sat t x e) ↔ (∀ j, j < n → x j = col (d.map fun e => e.2) t j) ∧ ∀ e ∈ r, e.2.getD t 0 = 0 := by
  have hl := S.len
  have hd : ∀ j (hj : j < d.length), (Sat t x d[j] ↔ x j = col (d.map fun e => e.2) t j) := by
    intro j hj
    unfold Sat dot
    rw [(S.wd _ (List.getElem_mem hj)).1, xsum_one (j := j) (by omega) ?_]
    · have u1 := S.unit j hj j (by omega)
      unfold factor at u1
      rw [u1, if_pos rfl, one_mul]
      unfold col
      rw [show (d.map fun e => e.2).getD j [] = d[j].2 by
        rw [List.getD_eq_getElem?_getD, List.getElem?_map, List.getElem?_eq_getElem hj]; rfl]
    · intro i hi h2
      have u1 := S.unit j hj i hi
      unfold factor at u1
      rw [u1, if_neg h2, zero_mul]
  have hr : ∀ e ∈ r, (Sat t x e ↔ e.2.getD t 0 = 0) := by
    intro e he
    unfold Sat dot
    rw [(S.wr _ he).1, xsum_zero ?_]
    · exact eq_comm
    · intro i hi
      have := S.zero e he i hi
      unfold factor at this
      rw [this, zero_mul]
  constructor
  · intro h
    refine ⟨fun j hj => (hd j (by omega)).mp (h _ (by simp [List.getElem_mem])), fun e he => (hr e he).mp (h e (by simp [he]))⟩
  · rintro ⟨h1, h2⟩ e he
    rcases List.mem_append.mp he with h3 | h3
    · obtain ⟨j, hj, rfl⟩ := List.mem_iff_getElem.mp h3
      exact (hd j hj).mpr (h1 j (by omega))
    · exact (hr e h3).mpr (h2 e h3)
def Shape (n L : Nat) (X : List Bytes) : Prop := X.length = n ∧ ∀ r ∈ X, r.length = L
theorem solveF_some : ∀ (f c : Nat) (d r : List Eq_) (X : List Bytes), f + c = n → St n L c d r → solveF f c d r = some X → Shape n L X ∧ ∀ t, ∀ e ∈ d ++ r, Sat t (col X t) e
  | 0, c, d, r, X, hc, S, h => by
    have : c = n := by omega
    subst this
    unfold solveF at h
    split at h
    · rename_i hz
      cases h
      refine ⟨⟨by simp [S.len], ?_⟩, ?_⟩
      · intro b hb
        obtain ⟨e, he, rfl⟩ := List.mem_map.mp hb
        exact (S.wd e he).2
      · intro t
        refine (end_sat S).mpr ⟨fun j _ => rfl, ?_⟩
        intro e he
        have h1 := List.all_eq_true.mp hz e he
        rw [List.all_eq_true] at h1
        rw [List.getD_eq_getElem?_getD]
        cases h2 : e.2[t]? with
        | none => rfl
        | some b => exact of_decide_eq_true (h1 b (List.mem_of_getElem? h2))
    · cases h
  | f + 1, c, d, r, X, hc, S, h => by
    unfold solveF at h
    cases hi : r.findIdx? fun e => factor e c != 0 with
    | none => rw [hi] at h; cases h
    | some i =>
      rw [hi] at h
      dsimp only at h
      obtain ⟨hlt, hp, _⟩ := List.findIdx?_eq_some_iff_getElem.mp hi
      have hf : factor r[i] c ≠ 0 := by simpa using hp
      rw [show r.getD i ([], []) = r[i] by rw [List.getD_eq_getElem?_getD, List.getElem?_eq_getElem hlt]; rfl] at h
      obtain ⟨h1, h2⟩ := solveF_some f (c + 1) _ _ X (by omega) (S.turn hlt hf) h
      exact ⟨h1, fun t => (turn_sat S hlt hf).mp (h2 t)⟩
theorem solveF_one : ∀ (f c : Nat) (d r : List Eq_) (X : List Bytes), f + c = n → St n L c d r → (∀ x : Nat → UInt8, (∀ e ∈ d ++ r, Ker x e) → ∀ i, i < n → x i = 0) → Shape n L X → (∀ t, t < L → ∀ e ∈ d ++ r, Sat t (col X t) e) → solveF f c d r = some X
  | 0, c, d, r, X, hc, S, _, hX, h => by
    have : c = n := by omega
    subst this
    unfold solveF
    have hz : r.all (fun (e : Eq_) => e.2.all fun (x : UInt8) => x == 0) = true := by
      rw [List.all_eq_true]
      intro e he
      rw [List.all_eq_true]
      intro b hb
      obtain ⟨t, ht, rfl⟩ := List.mem_iff_getElem.mp hb
      have := ((end_sat S).mp (h t (by rw [← (S.wr e he).2]; exact ht))).2 e he
      rw [List.getD_eq_getElem?_getD, List.getElem?_eq_getElem ht] at this
      simpa using this
    rw [if_pos hz]
    congr 1
    refine List.ext_getElem (by simp [S.len, hX.1]) fun j h1 h2 => ?_
    have hjd : j < d.length := by simpa using h1
    rw [List.getElem_map]
    have l1 : d[j].2.length = L := (S.wd _ (List.getElem_mem hjd)).2
    have l2 : X[j].length = L := hX.2 _ (List.getElem_mem h2)
    refine List.ext_getElem (by rw [l1, l2]) fun t h3 h4 => ?_
    have := ((end_sat S).mp (h t (by omega))).1 j (by have := S.len; omega)
    unfold col at this
    simp only [List.getD_eq_getElem?_getD, List.getElem?_map, List.getElem?_eq_getElem hjd, List.getElem?_eq_getElem h2, Option.map_some, Option.getD_some, List.getElem?_eq_getElem h3, List.getElem?_eq_getElem h4] at this
    exact this.symm
  | f + 1, c, d, r, X, hc, S, hk, hX, h => by
    unfold solveF
    cases hi : r.findIdx? fun e => factor e c != 0 with
    | none =>
      rw [List.findIdx?_eq_none_iff] at hi
      obtain ⟨x, h1, h2⟩ := ker_some (by omega) S (fun e he => by simpa using hi e he)
      have := hk x h2 c (by omega)
      rw [h1] at this
      exact absurd this (by decide)
    | some i =>
      dsimp only
      obtain ⟨hlt, hp, _⟩ := List.findIdx?_eq_some_iff_getElem.mp hi
      have hf : factor r[i] c ≠ 0 := by simpa using hp
      rw [show r.getD i ([], []) = r[i] by rw [List.getD_eq_getElem?_getD, List.getElem?_eq_getElem hlt]; rfl]
      exact solveF_one f (c + 1) _ _ X (by omega) (S.turn hlt hf) (fun x hx => hk x ((turn_ker S hlt hf).mp hx)) hX (fun t ht => (turn_sat S hlt hf).mpr (h t ht))
theorem St.start {l : List Eq_} (h : ∀ e ∈ l, Wf n L e) : St n L 0 [] l := ⟨rfl, fun e he => (by cases he), h, fun j hj => (by cases hj), fun e _ i hi => (by omega)⟩
theorem solve_some {l : List Eq_} (h : ∀ e ∈ l, Wf n L e) {X : List Bytes} (hs : solve n l = some X) : Shape n L X ∧ ∀ t, ∀ e ∈ l, Sat t (col X t) e :=
  solveF_some n 0 [] l X rfl (.start h) hs
theorem solve_one {l : List Eq_} (h : ∀ e ∈ l, Wf n L e) (hk : ∀ x : Nat → UInt8, (∀ e ∈ l, Ker x e) → ∀ i, i < n → x i = 0) {X : List Bytes} (hX : Shape n L X) (hs : ∀ t, t < L → ∀ e ∈ l, Sat t (col X t) e) : solve n l = some X :=
  solveF_one n 0 [] l X rfl (.start h) hk hX hs
end
end Gau
end
section
namespace Rw
open Sp Fld Pol Gau
theorem xor_len (a b : Bytes) : (Sp.xor a b).length = min a.length b.length := by unfold Sp.xor; simp
theorem scale_len (s : UInt8) (a : Bytes) : (scale s a).length = a.length := by unfold scale; simp
theorem noughts_len (n : Nat) : (noughts n).length = n := by unfold noughts; simp
theorem noughts_getD (n t : Nat) : (noughts n).getD t 0 = 0 := by
  unfold noughts
  rw [List.getD_eq_getElem?_getD, List.getElem?_replicate]
  split <;> rfl
theorem xor_getD {a b : Bytes} (h : a.length = b.length) (t : Nat) : (Sp.xor a b).getD t 0 = a.getD t 0 ^^^ b.getD t 0 := by
  unfold Sp.xor
  simp only [List.getD_eq_getElem?_getD, List.getElem?_zipWith]
  by_cases hi : t < a.length
  · rw [List.getElem?_eq_getElem hi, List.getElem?_eq_getElem (h ▸ hi)]; rfl
  · rw [List.getElem?_eq_none (by omega), List.getElem?_eq_none (by omega)]; simp
theorem scale_getD (s : UInt8) (a : Bytes) (t : Nat) : (scale s a).getD t 0 = mul8 s (a.getD t 0) := getD_map0 s a t
theorem bytes_ext {a b : Bytes} (h : a.length = b.length) (h2 : ∀ t, t < a.length → a.getD t 0 = b.getD t 0) : a = b := by
  refine List.ext_getElem h fun t h3 h4 => ?_
  have := h2 t h3
  simpa only [List.getD_eq_getElem?_getD, List.getElem?_eq_getElem h3, List.getElem?_eq_getElem h4, Option.getD_some] using this
theorem getD_range {α : Type} (f : Nat → α) (z : α) {n i : Nat} (h : i < n) : ((List.range n).map f).getD i z = f i := by
  rw [List.getD_eq_getElem?_getD, List.getElem?_map, List.getElem?_range h]; rfl
theorem map_range_ext {α : Type} {f g : Nat → α} {n : Nat} (h : ∀ i, i < n → f i = g i) : (List.range n).map f = (List.range n).map g :=
  List.map_congr_left fun i hi => h i (List.mem_range.mp hi)
theorem list_range {α : Type} (z : α) (l : List α) : l = (List.range l.length).map fun i => l.getD i z := by
  refine List.ext_getElem (by simp) fun i h1 h2 => ?_
  simp [h1]
theorem map_drop_range {α : Type} (f : Nat → α) (k d : Nat) : ((List.range d).map f).drop k = (List.range (d - k)).map fun j => f (k + j) := by
  refine List.ext_getElem (by simp) fun i h1 h2 => ?_
  simp
theorem map_take_range {α : Type} (f : Nat → α) {k d : Nat} (h : k ≤ d) : ((List.range d).map f).take k = (List.range k).map f := by
  refine List.ext_getElem (by simp; omega) fun i h1 h2 => ?_
  simp
theorem ev_snoc (x c : UInt8) : ∀ l : List UInt8, ev x (l ++ [c]) = ev x l ^^^ mul8 (power x l.length) c
  | [] => by simp [ev, power, mul_zero, one_mul]
  | b :: l => by
    show b ^^^ mul8 x (ev x (l ++ [c])) = (b ^^^ mul8 x (ev x l)) ^^^ mul8 (mul8 x (power x l.length)) c
    rw [ev_snoc x c l, mul_xor_right, mul_assoc, xor_assoc]
theorem ev_range (x : UInt8) (f : Nat → UInt8) : ∀ n, ev x ((List.range n).map f) = xsum n fun i => mul8 (power x i) (f i)
  | 0 => rfl
  | n + 1 => by
    rw [List.range_succ, List.map_append, List.map_singleton, ev_snoc, ev_range x f n]
    simp [xsum]
def vAt (L : Nat) (p : UInt8) (rows : List Bytes) : Bytes := rows.foldr (fun r acc => Sp.xor (scale p acc) r) (noughts L)
theorem vAt_len {L : Nat} {p : UInt8} : ∀ {rows : List Bytes}, (∀ r ∈ rows, r.length = L) → (vAt L p rows).length = L
  | [], _ => noughts_len L
  | r :: rows, h => by
    show (Sp.xor (scale p (vAt L p rows)) r).length = L
    rw [xor_len, scale_len, vAt_len fun q hq => h q (List.mem_cons_of_mem _ hq), h r (List.mem_cons_self ..), Nat.min_self]
theorem vAt_getD {L : Nat} {p : UInt8} (t : Nat) : ∀ {rows : List Bytes}, (∀ r ∈ rows, r.length = L) → (vAt L p rows).getD t 0 = ev p (rows.map fun r => r.getD t 0)
  | [], _ => noughts_getD L t
  | r :: rows, h => by
    have h1 : ∀ q ∈ rows, q.length = L := fun q hq => h q (List.mem_cons_of_mem _ hq)
    show (Sp.xor (scale p (vAt L p rows)) r).getD t 0 = r.getD t 0 ^^^ mul8 p (ev p (rows.map fun r => r.getD t 0))
    rw [xor_getD (by rw [scale_len, vAt_len h1, h r (List.mem_cons_self ..)]), scale_getD, vAt_getD t h1, xor_comm]
theorem sumOf_succ (L : Nat) (g : Nat → UInt8 × Bytes) (n : Nat) : sumOf L ((List.range (n + 1)).map g) = Sp.xor (sumOf L ((List.range n).map g)) (scale (g n).1 (g n).2) := by
  unfold sumOf
  rw [List.range_succ, List.map_append, List.map_append, List.foldl_append]; rfl
theorem sumOf_len {L : Nat} {g : Nat → UInt8 × Bytes} : ∀ {n : Nat}, (∀ i, i < n → (g i).2.length = L) → (sumOf L ((List.range n).map g)).length = L
  | 0, _ => noughts_len L
  | n + 1, h => by
    rw [sumOf_succ, xor_len, scale_len, sumOf_len fun i hi => h i (by omega), h n (by omega), Nat.min_self]
theorem sumOf_getD {L : Nat} {g : Nat → UInt8 × Bytes} (t : Nat) : ∀ {n : Nat}, (∀ i, i < n → (g i).2.length = L) → (sumOf L ((List.range n).map g)).getD t 0 = xsum n fun i => mul8 (g i).1 ((g i).2.getD t 0)
  | 0, _ => noughts_getD L t
  | n + 1, h => by
    have h1 : ∀ i, i < n → (g i).2.length = L := fun i hi => h i (by omega)
    rw [sumOf_succ, xor_getD (by rw [scale_len, sumOf_len h1, h n (by omega)]), scale_getD, sumOf_getD t h1]; rfl
theorem sumOf_vAt {L n : Nat} {p : UInt8} {r : Nat → Bytes} (h : ∀ i, i < n → (r i).length = L) : sumOf L ((List.range n).map fun i => (power p i, r i)) = vAt L p ((List.range n).map r) := by
  have h1 : ∀ q ∈ (List.range n).map r, q.length = L := fun q hq => by
    obtain ⟨i, hi, rfl⟩ := List.mem_map.mp hq; exact h i (List.mem_range.mp hi)
  refine bytes_ext (by rw [sumOf_len (g := fun i => (power p i, r i)) h, vAt_len h1]) fun t _ => ?_
  rw [sumOf_getD (g := fun i => (power p i, r i)) t h, vAt_getD t h1, List.map_map]
  show _ = ev p ((List.range n).map fun i => (r i).getD t 0)
  rw [ev_range]
section
variable (p : Nat → UInt8) (v : Nat → Bytes)
def ddR : Nat → Nat → Bytes
  | 0, a => v a
  | g + 1, a => scale (inv8 (p a ^^^ p (a + (g + 1)))) (Sp.xor (ddR g a) (ddR g (a + 1)))
end
def wrAR (p : UInt8) : Bytes → List Bytes → List Bytes
  | prev, [] => [prev]
  | prev, c :: r => Sp.xor prev (scale p c) :: wrAR p c r
def wrR (p : UInt8) : List Bytes → List Bytes
  | [] => []
  | c :: r => scale p c :: wrAR p c r
def addCR (c : Bytes) : List Bytes → List Bytes
  | [] => []
  | b :: r => Sp.xor b c :: r
def hornerR (p : Nat → UInt8) (f : Nat → Bytes) (m : Nat) : Nat → List Bytes
  | 0 => [f (m - 1)]
  | j + 1 => addCR (f (m - 1 - (j + 1))) (wrR (p (m - 1 - (j + 1))) (hornerR p f m j))
def throughR (p : Nat → UInt8) (v : Nat → Bytes) (m : Nat) : List Bytes := hornerR p (fun g => ddR p v g 0) m (m - 1)
section
variable {p : Nat → UInt8} {v : Nat → Bytes} {m L : Nat} (hv : ∀ i, i < m → (v i).length = L)
include hv in
theorem ddR_len : ∀ g a, a + g < m → (ddR p v g a).length = L
  | 0, a, h => hv a h
  | g + 1, a, h => by
    unfold ddR
    rw [scale_len, xor_len, ddR_len g a (by omega), ddR_len g (a + 1) (by omega), Nat.min_self]
include hv in
theorem ddR_getD (t : Nat) : ∀ g a, a + g < m → (ddR p v g a).getD t 0 = dd p (fun i => (v i).getD t 0) g a
  | 0, a, h => rfl
  | g + 1, a, h => by
    unfold ddR dd
    rw [scale_getD, xor_getD (by rw [ddR_len hv g a (by omega), ddR_len hv g (a + 1) (by omega)]), ddR_getD t g a (by omega), ddR_getD t g (a + 1) (by omega)]
theorem wrAR_all {q : UInt8} : ∀ {r : List Bytes} {c : Bytes}, c.length = L → (∀ b ∈ r, b.length = L) → (∀ b ∈ wrAR q c r, b.length = L) ∧ ∀ t, (wrAR q c r).map (fun b => b.getD t 0) = wrA q (c.getD t 0) (r.map fun b => b.getD t 0)
  | [], c, hc, _ => ⟨fun b hb => by rw [List.mem_singleton.mp hb, hc], fun t => rfl⟩
  | d :: r, c, hc, h => by
    have hd := h d (List.mem_cons_self ..)
    obtain ⟨h1, h2⟩ := wrAR_all (q := q) hd (fun b hb => h b (List.mem_cons_of_mem _ hb))
    refine ⟨?_, ?_⟩
    · intro b hb
      rcases List.mem_cons.mp hb with e | e
      · rw [e, xor_len, scale_len, hc, hd, Nat.min_self]
      · exact h1 b e
    · intro t
      show (Sp.xor c (scale q d)).getD t 0 :: (wrAR q d r).map (fun b => b.getD t 0) = _
      rw [h2 t, xor_getD (by rw [scale_len, hc, hd]), scale_getD]; rfl
theorem wrR_all {q : UInt8} : ∀ {r : List Bytes}, (∀ b ∈ r, b.length = L) → (∀ b ∈ wrR q r, b.length = L) ∧ ∀ t, (wrR q r).map (fun b => b.getD t 0) = wr q (r.map fun b => b.getD t 0)
  | [], _ => ⟨fun b hb => (by cases hb), fun t => rfl⟩
  | d :: r, h => by
    have hd := h d (List.mem_cons_self ..)
    obtain ⟨h1, h2⟩ := wrAR_all (q := q) hd (fun b hb => h b (List.mem_cons_of_mem _ hb))
    refine ⟨?_, ?_⟩
    · intro b hb
      rcases List.mem_cons.mp hb with e | e
      · rw [e, scale_len, hd]
      · exact h1 b e
    · intro t
      show (scale q d).getD t 0 :: (wrAR q d r).map (fun b => b.getD t 0) = _
      rw [h2 t, scale_getD]; rfl
theorem addCR_all {c : Bytes} (hc : c.length = L) : ∀ {r : List Bytes}, (∀ b ∈ r, b.length = L) → (∀ b ∈ addCR c r, b.length = L) ∧ ∀ t, (addCR c r).map (fun b => b.getD t 0) = addC (c.getD t 0) (r.map fun b => b.getD t 0)
  | [], _ => ⟨fun b hb => (by cases hb), fun t => rfl⟩
  | d :: r, h => by
    have hd := h d (List.mem_cons_self ..)
    refine ⟨?_, ?_⟩
    · intro b hb
      rcases List.mem_cons.mp hb with e | e
      · rw [e, xor_len, hd, hc, Nat.min_self]
      · exact h b (List.mem_cons_of_mem _ e)
    · intro t
      show (Sp.xor d c).getD t 0 :: r.map (fun b => b.getD t 0) = _
      rw [xor_getD (by rw [hc, hd])]; rfl
theorem hornerR_all {f : Nat → Bytes} (hf : ∀ g, g < m → (f g).length = L) (h0 : 0 < m) : ∀ j, j < m → (∀ b ∈ hornerR p f m j, b.length = L) ∧ ∀ t, (hornerR p f m j).map (fun b => b.getD t 0) = horner p (fun g => (f g).getD t 0) m j
  | 0, _ => ⟨fun b hb => by rw [List.mem_singleton.mp hb]; exact hf _ (by omega), fun t => rfl⟩
  | j + 1, h => by
    obtain ⟨h1, h2⟩ := hornerR_all hf h0 j (by omega)
    obtain ⟨h3, h4⟩ := wrR_all (q := p (m - 1 - (j + 1))) h1
    obtain ⟨h5, h6⟩ := addCR_all (hf (m - 1 - (j + 1)) (by omega)) h3
    exact ⟨h5, fun t => by
      show (addCR _ _).map _ = addC _ _
      rw [h6 t, h4 t, h2 t]⟩
theorem horner_congr {f g : Nat → UInt8} (h0 : 0 < m) (h : ∀ i, i < m → f i = g i) : ∀ j, horner p f m j = horner p g m j
  | 0 => by unfold horner; rw [h _ (by omega)]
  | j + 1 => by unfold horner; rw [h _ (by omega), horner_congr h0 h j]
include hv in
theorem throughR_all (h0 : 0 < m) : (∀ b ∈ throughR p v m, b.length = L) ∧ ∀ t, (throughR p v m).map (fun b => b.getD t 0) = through p (fun i => (v i).getD t 0) m := by
  obtain ⟨h1, h2⟩ := hornerR_all (p := p) (f := fun g => ddR p v g 0) (m := m) (L := L) (fun g hg => ddR_len hv g 0 (by omega)) h0 (m - 1) (by omega)
  refine ⟨h1, fun t => ?_⟩
  unfold throughR through
  rw [h2 t]
  exact horner_congr h0 (fun g hg => ddR_getD hv t g 0 (by omega)) _
end
theorem rows_ext {A B : List Bytes} {L : Nat} (hl : A.length = B.length) (hA : ∀ b ∈ A, b.length = L) (hB : ∀ b ∈ B, b.length = L) (h : ∀ t, t < L → A.map (fun b => b.getD t 0) = B.map fun b => b.getD t 0) : A = B := by
  refine List.ext_getElem hl fun i h1 h2 => ?_
  have l1 := hA _ (List.getElem_mem h1)
  have l2 := hB _ (List.getElem_mem h2)
  refine bytes_ext (by rw [l1, l2]) fun t ht => ?_
  have := congrArg (fun l : List UInt8 => l[i]?) (h t (by omega))
  simpa [h1, h2] using this
theorem throughR_len {p : Nat → UInt8} {v : Nat → Bytes} {m L : Nat} (hv : ∀ i, i < m → (v i).length = L) (h0 : 0 < m) : (throughR p v m).length = m := by
  have := congrArg List.length ((throughR_all (p := p) hv h0).2 0)
  rw [List.length_map, through_len _ _ h0] at this
  exact this
theorem throughR_of {p : Nat → UInt8} {v : Nat → Bytes} {m L : Nat} (hp : ∀ i j, i < m → j < m → i ≠ j → p i ≠ p j) (h0 : 0 < m) {R : List Bytes} (hR : Shape m L R) (h : ∀ i, i < m → v i = vAt L (p i) R) : throughR p v m = R := by
  have hv : ∀ i, i < m → (v i).length = L := fun i hi => by rw [h i hi, vAt_len hR.2]
  obtain ⟨h1, h2⟩ := throughR_all (p := p) hv h0
  refine rows_ext (by rw [throughR_len hv h0, hR.1]) h1 hR.2 fun t ht => ?_
  rw [h2 t]
  refine through_of hp (by simp [hR.1]) h0 fun i hi => ?_
  show (v i).getD t 0 = _
  rw [h i hi, vAt_getD t hR.2]
theorem flat_len {L : Nat} : ∀ {M : List Bytes}, (∀ b ∈ M, b.length = L) → M.flatten.length = M.length * L
  | [], _ => by simp
  | b :: M, h => by
    rw [List.flatten_cons, List.length_append, h b (List.mem_cons_self ..), flat_len fun q hq => h q (List.mem_cons_of_mem _ hq), List.length_cons, Nat.add_mul]; omega
theorem flat_drop {L : Nat} : ∀ (k : Nat) {M : List Bytes}, (∀ b ∈ M, b.length = L) → M.flatten.drop (L * k) = (M.drop k).flatten
  | 0, _, _ => by simp
  | k + 1, [], _ => by simp
  | k + 1, b :: M, h => by
    rw [List.flatten_cons, List.drop_succ_cons, Nat.mul_succ, Nat.add_comm, ← List.drop_drop, List.drop_left' (h b (List.mem_cons_self ..)), flat_drop k fun q hq => h q (List.mem_cons_of_mem _ hq)]
theorem flat_take {L : Nat} : ∀ (k : Nat) {M : List Bytes}, (∀ b ∈ M, b.length = L) → M.flatten.take (L * k) = (M.take k).flatten
  | 0, _, _ => by simp
  | k + 1, [], _ => by simp
  | k + 1, b :: M, h => by
    have hb := h b (List.mem_cons_self ..)
    rw [List.flatten_cons, List.take_succ_cons, List.flatten_cons, Nat.mul_succ, Nat.add_comm, List.take_append, hb, List.take_of_length_le (by omega), Nat.add_sub_cancel_left, flat_take k fun q hq => h q (List.mem_cons_of_mem _ hq)]
theorem rowsOf_flat {L n : Nat} {M : List Bytes} (h : Shape n L M) : rowsOf L n M.flatten = M := by
  unfold rowsOf Sp.part
  refine List.ext_getElem (by simp [h.1]) fun i h1 h2 => ?_
  rw [List.getElem_map, List.getElem_range, flat_drop i h.2]
  have := flat_take (L := L) 1 (M := M.drop i) fun b hb => h.2 b (List.mem_of_mem_drop hb)
  rw [Nat.mul_one] at this
  have e2 := List.drop_eq_getElem_cons h2
  rw [this, e2, List.take_succ_cons]
  simp
theorem rowsOf_shape {L n : Nat} {b : Bytes} (h : b.length = n * L) : Shape n L (rowsOf L n b) := by
  unfold rowsOf Sp.part
  refine ⟨by simp, fun r hr => ?_⟩
  obtain ⟨i, hi, rfl⟩ := List.mem_map.mp hr
  rw [List.mem_range] at hi
  simp only [List.length_take, List.length_drop, h]
  have : L * (i + 1) ≤ n * L := by rw [Nat.mul_comm n L]; exact Nat.mul_le_mul_left L hi
  rw [Nat.mul_succ] at this
  omega
theorem flat_rowsOf {L : Nat} : ∀ {n : Nat} {b : Bytes}, b.length = n * L → (rowsOf L n b).flatten = b
  | 0, b, h => by
    have : b = [] := List.length_eq_zero_iff.mp (by simpa using h)
    subst this; rfl
  | n + 1, b, h => by
    have h1 : (b.drop L).length = n * L := by rw [List.length_drop, h, Nat.add_mul]; omega
    have e : rowsOf L (n + 1) b = b.take L :: rowsOf L n (b.drop L) := by
      unfold rowsOf Sp.part
      rw [List.range_succ_eq_map, List.map_cons, List.map_map]
      congr 1
      refine List.map_congr_left fun i _ => ?_
      show (b.drop (L * (i + 1))).take L = ((b.drop L).drop (L * i)).take L
      rw [List.drop_drop, Nat.mul_succ, Nat.add_comm]
    rw [e, List.flatten_cons, flat_rowsOf h1, List.take_append_drop]
theorem shape_flat_inj {n L : Nat} {A B : List Bytes} (hA : Shape n L A) (hB : Shape n L B) (h : A.flatten = B.flatten) : A = B := by
  rw [← rowsOf_flat hA, h, rowsOf_flat hB]
theorem zipWith_append' {α β γ : Type} (f : α → β → γ) : ∀ {a c : List α} {b d : List β}, a.length = b.length → List.zipWith f (a ++ c) (b ++ d) = List.zipWith f a b ++ List.zipWith f c d
  | [], _, [], _, _ => rfl
  | _ :: a, c, _ :: b, d, h => by
    simp only [List.cons_append, List.zipWith_cons_cons]
    rw [zipWith_append' f (by simpa using h)]
theorem flat_xor {L : Nat} : ∀ {A B : List Bytes}, A.length = B.length → (∀ b ∈ A, b.length = L) → (∀ b ∈ B, b.length = L) → Sp.xor A.flatten B.flatten = (List.zipWith Sp.xor A B).flatten
  | [], [], _, _, _ => rfl
  | a :: A, b :: B, h, hA, hB => by
    rw [List.flatten_cons, List.flatten_cons, List.zipWith_cons_cons, List.flatten_cons, ← flat_xor (by simpa using h) (fun q hq => hA q (List.mem_cons_of_mem _ hq)) (fun q hq => hB q (List.mem_cons_of_mem _ hq))]
    exact zipWith_append' _ (by rw [hA a (List.mem_cons_self ..), hB b (List.mem_cons_self ..)])
theorem flat_scale (s : UInt8) (A : List Bytes) : scale s A.flatten = (A.map (scale s)).flatten := by
  unfold scale; rw [List.map_flatten]
theorem flat_noughts (m L : Nat) : noughts (m * L) = (List.replicate m (noughts L)).flatten := by
  unfold noughts; rw [List.flatten_replicate_replicate]
theorem vAt_flat {L m : Nat} {p : UInt8} (E : Nat → Nat → Bytes) : ∀ (n : Nat), (∀ i, i < n → ∀ j, j < m → (E i j).length = L) →
    vAt (m * L) p ((List.range n).map fun i => ((List.range m).map fun j => E i j).flatten) = ((List.range m).map fun j => vAt L p ((List.range n).map fun i => E i j)).flatten := by
  suffices H : ∀ (l : List Nat), (∀ i ∈ l, ∀ j, j < m → (E i j).length = L) → vAt (m * L) p (l.map fun i => ((List.range m).map fun j => E i j).flatten) = ((List.range m).map fun j => vAt L p (l.map fun i => E i j)).flatten from
    fun n h => H (List.range n) fun i hi => h i (List.mem_range.mp hi)
  intro l
  induction l with
  | nil =>
    intro _
    show noughts (m * L) = ((List.range m).map fun j => noughts L).flatten
    rw [flat_noughts]
    exact congrArg List.flatten (List.ext_getElem (by simp) fun i h1 h2 => by simp)
  | cons i l ih =>
    intro h
    have h1 := ih fun q hq => h q (List.mem_cons_of_mem _ hq)
    have h2 := h i (List.mem_cons_self ..)
    have h3 : ∀ j, j < m → (vAt L p (l.map fun i => E i j)).length = L := fun j hj => vAt_len fun r hr => by
      obtain ⟨q, hq, rfl⟩ := List.mem_map.mp hr
      exact h q (List.mem_cons_of_mem _ hq) j hj
    show Sp.xor (scale p (vAt (m * L) p (l.map fun i => ((List.range m).map fun j => E i j).flatten))) ((List.range m).map fun j => E i j).flatten = ((List.range m).map fun j => Sp.xor (scale p (vAt L p (l.map fun i => E i j))) (E i j)).flatten
    rw [h1, flat_scale, flat_xor (L := L) (by simp) ?_ ?_]
    · exact congrArg List.flatten (List.ext_getElem (by simp) fun j h4 h5 => by simp)
    · intro b hb
      simp only [List.map_map] at hb
      obtain ⟨j, hj, rfl⟩ := List.mem_map.mp hb
      show (scale p _).length = L
      rw [scale_len]; exact h3 j (List.mem_range.mp hj)
    · intro b hb
      obtain ⟨j, hj, rfl⟩ := List.mem_map.mp hb
      exact h2 j (List.mem_range.mp hj)
end Rw
end
section
namespace Tld
open Sp Fld Pol Gau Rw
def above (d : Nat) : Nat → Nat
  | 0 => 0
  | i + 1 => above d i + (d - i)
theorem above_sum (d : Nat) : ∀ i, ((List.range i).map fun a => d - a).sum = above d i
  | 0 => rfl
  | i + 1 => by rw [List.range_succ, List.map_append, List.sum_append, above_sum d i]; simp [above]
theorem above_closed (d : Nat) : ∀ i, i ≤ d → above d i = i * d - i * (i - 1) / 2
  | 0, _ => by simp [above]
  | i + 1, h => by
    have ih := above_closed d i (by omega)
    have e1 : (i + 1) * (i + 1 - 1) / 2 = i * (i - 1) / 2 + i := by
      cases i with
      | zero => rfl
      | succ j =>
        simp only [Nat.add_sub_cancel]
        have : (j + 1 + 1) * (j + 1) = (j + 1) * j + 2 * (j + 1) := by rw [Nat.add_mul (j + 1) 1 (j + 1)]; simp [Nat.mul_add, Nat.add_mul]; omega
        rw [this]
        omega
    have e2 : i * (i - 1) / 2 + i ≤ i * d := by
      have h1 : i * (i - 1) / 2 ≤ i * (i - 1) := Nat.div_le_self _ _
      have h2 : i * (i - 1) + i = i * i := by
        cases i with
        | zero => rfl
        | succ j => simp only [Nat.add_sub_cancel]; rw [Nat.mul_succ]
      have h3 : i * i ≤ i * d := Nat.mul_le_mul_left i (by omega)
      omega
    show above d i + (d - i) = _
    rw [ih, e1, Nat.add_mul]
    omega
theorem which_eq (c : Code) (i j : Nat) : c.which i j = above c.d i + (j - i) := by unfold Code.which; rw [above_sum]
theorem above_mono (d : Nat) : ∀ {i j}, i ≤ j → above d i ≤ above d j := by
  intro i j h
  induction h with
  | refl => exact Nat.le_refl _
  | step _ ih => show _ ≤ above d _ + _; omega
structure Ok (c : Code) : Prop where
  k1 : 1 ≤ c.k
  kd : c.k ≤ c.d
  dn : c.d < c.n
  n9 : c.n ≤ 9
  d6 : c.d ≤ 6
  l1 : 1 ≤ c.len
  l64 : c.len ≤ 64
theorem ok_iff (c : Code) : c.ok = true ↔ Ok c := by
  unfold Code.ok NODES ROWS LEN
  simp only [Bool.and_eq_true, decide_eq_true_eq]
  exact ⟨fun ⟨a, b, x, y, z, u, v⟩ => ⟨a, b, x, y, z, u, v⟩, fun ⟨a, b, x, y, z, u, v⟩ => ⟨a, b, x, y, z, u, v⟩⟩
section
variable {c : Code} (kd : c.k ≤ c.d)
include kd
theorem holds_eq : c.holds = above c.d c.k := by unfold Code.holds; rw [above_closed c.d c.k kd]
theorem which_lt {i j : Nat} (hij : i ≤ j) (hi : i < c.k) (hj : j < c.d) : c.which i j < c.holds := by
  rw [holds_eq kd, which_eq]
  have := above_mono c.d (i := i + 1) (j := c.k) hi
  have e : above c.d (i + 1) = above c.d i + (c.d - i) := rfl
  omega
theorem entry_len {X : List Bytes} (hX : Shape c.holds c.len X) {i j : Nat} (hi : i < c.d) (hj : j < c.d) : (c.entry X i j).length = c.len := by
  unfold Code.entry
  split
  · exact noughts_len _
  · rename_i h
    have h1 : c.which (min i j) (max i j) < c.holds := which_lt kd (by omega) (by omega) (by omega)
    rw [List.getD_eq_getElem?_getD, List.getElem?_eq_getElem (by rw [hX.1]; exact h1)]
    exact hX.2 _ (List.getElem_mem _)
omit kd in
theorem entry_symm (X : List Bytes) (i j : Nat) : c.entry X i j = c.entry X j i := by
  unfold Code.entry; rw [Nat.min_comm, Nat.max_comm]
theorem rows_vAt {X : List Bytes} (hX : Shape c.holds c.len X) (f : Nat) : c.rows X f = (List.range c.d).map fun j => vAt c.len (place f) ((List.range c.d).map fun i => c.entry X i j) := by
  unfold Code.rows
  refine map_range_ext fun j hj => ?_
  exact sumOf_vAt (r := fun i => c.entry X i j) fun i hi => entry_len kd hX hi hj
theorem rows_shape {X : List Bytes} (hX : Shape c.holds c.len X) (f : Nat) : Shape c.d c.len (c.rows X f) := by
  rw [rows_vAt kd hX]
  refine ⟨by simp, fun r hr => ?_⟩
  obtain ⟨j, hj, rfl⟩ := List.mem_map.mp hr
  refine vAt_len fun q hq => ?_
  obtain ⟨i, hi, rfl⟩ := List.mem_map.mp hq
  exact entry_len kd hX (List.mem_range.mp hi) (List.mem_range.mp hj)
def square (c : Code) (X : List Bytes) : List Bytes := (List.range c.d).map fun i => ((List.range c.d).map fun j => c.entry X i j).flatten
theorem node_flat {X : List Bytes} (hX : Shape c.holds c.len X) (f : Nat) : vAt (c.d * c.len) (place f) (square c X) = (c.rows X f).flatten := by
  unfold square
  rw [vAt_flat (fun i j => c.entry X i j) c.d fun i hi j hj => entry_len kd hX hi hj, rows_vAt kd hX]
end
def lower (c : Code) (right : List Bytes) : List Bytes :=
  (List.replicate c.k (noughts (c.k * c.len))) ++ (List.range (c.d - c.k)).map fun a => ((List.range c.k).map fun j => Sp.part (right.getD j []) (c.len * a) c.len).flatten
def rightOf (c : Code) (p : Nat → UInt8) (h : Nat → Bytes) : List Bytes := throughR p (fun a => (h a).drop (c.k * c.len)) c.k
def leftOf (c : Code) (p : Nat → UInt8) (h : Nat → Bytes) : List Bytes := throughR p (fun a => Sp.xor ((h a).take (c.k * c.len)) (vAt (c.k * c.len) (p a) (lower c (rightOf c p h)))) c.k
def likely (c : Code) (p : Nat → UInt8) (h : Nat → Bytes) : Bytes :=
  ((List.range c.k).map fun i => ((leftOf c p h).getD i []).drop (i * c.len) ++ (rightOf c p h).getD i []).flatten
theorem ev_tail0 (x : UInt8) : ∀ (l z : List UInt8), (∀ c ∈ z, c = 0) → ev x (l ++ z) = ev x l
  | [], [], _ => rfl
  | [], c :: z, h => by
    show c ^^^ mul8 x (ev x z) = 0
    have := ev_tail0 x [] z fun q hq => h q (List.mem_cons_of_mem _ hq)
    rw [List.nil_append] at this
    rw [this, h c (List.mem_cons_self ..)]
    show 0 ^^^ mul8 x 0 = 0
    rw [mul_zero, xor_self]
  | c :: l, z, h => by
    show c ^^^ mul8 x (ev x (l ++ z)) = c ^^^ mul8 x (ev x l)
    rw [ev_tail0 x l z h]
theorem vAt_head {L k d : Nat} (hkd : k ≤ d) {p : UInt8} {r : Nat → Bytes} (hr : ∀ i, i < d → (r i).length = L) (h0 : ∀ i, k ≤ i → i < d → r i = noughts L) : vAt L p ((List.range d).map r) = vAt L p ((List.range k).map r) := by
  have m1 : ∀ q ∈ (List.range d).map r, q.length = L := fun q hq => by
    obtain ⟨i, hi, rfl⟩ := List.mem_map.mp hq; exact hr i (List.mem_range.mp hi)
  have m2 : ∀ q ∈ (List.range k).map r, q.length = L := fun q hq => by
    obtain ⟨i, hi, rfl⟩ := List.mem_map.mp hq; exact hr i (by have := List.mem_range.mp hi; omega)
  refine bytes_ext (by rw [vAt_len m1, vAt_len m2]) fun t _ => ?_
  rw [vAt_getD t m1, vAt_getD t m2, ← List.take_append_drop k (List.range d), List.map_append, List.map_append]
  have e : (List.range d).take k = List.range k := by rw [List.take_range, Nat.min_eq_left hkd]
  rw [e]
  refine ev_tail0 _ _ _ fun b hb => ?_
  simp only [List.map_map] at hb
  obtain ⟨i, hi, rfl⟩ := List.mem_map.mp hb
  obtain ⟨j, hj, e2⟩ := List.mem_iff_getElem.mp hi
  simp at hj e2
  subst e2
  show (r (k + j)).getD t 0 = 0
  rw [h0 (k + j) (by omega) (by omega), noughts_getD]
theorem vAt_xor {L d : Nat} {p : UInt8} {r s : Nat → Bytes} (hr : ∀ i, i < d → (r i).length = L) (hs : ∀ i, i < d → (s i).length = L) :
    Sp.xor (vAt L p ((List.range d).map r)) (vAt L p ((List.range d).map s)) = vAt L p ((List.range d).map fun i => Sp.xor (r i) (s i)) := by
  have m1 : ∀ q ∈ (List.range d).map r, q.length = L := fun q hq => by
    obtain ⟨i, hi, rfl⟩ := List.mem_map.mp hq; exact hr i (List.mem_range.mp hi)
  have m2 : ∀ q ∈ (List.range d).map s, q.length = L := fun q hq => by
    obtain ⟨i, hi, rfl⟩ := List.mem_map.mp hq; exact hs i (List.mem_range.mp hi)
  have m3 : ∀ q ∈ (List.range d).map (fun i => Sp.xor (r i) (s i)), q.length = L := fun q hq => by
    obtain ⟨i, hi, rfl⟩ := List.mem_map.mp hq
    rw [List.mem_range] at hi
    show (Sp.xor (r i) (s i)).length = L
    rw [xor_len, hr i hi, hs i hi, Nat.min_self]
  refine bytes_ext (by rw [xor_len, vAt_len m1, vAt_len m2, vAt_len m3, Nat.min_self]) fun t _ => ?_
  rw [xor_getD (by rw [vAt_len m1, vAt_len m2]), vAt_getD t m1, vAt_getD t m2, vAt_getD t m3, ← ev_xor _ _ _ (by simp)]
  congr 1
  refine List.ext_getElem (by simp) fun i h1 h2 => ?_
  simp only [List.length_map, List.length_range] at h2
  simp only [List.getElem_zipWith, List.getElem_map, List.getElem_range]
  rw [xor_getD (by rw [hr i h2, hs i h2])]
theorem xor_noughts {L : Nat} {a : Bytes} (h : a.length = L) : Sp.xor a (noughts L) = a := by
  refine bytes_ext (by rw [xor_len, noughts_len, h, Nat.min_self]) fun t _ => ?_
  rw [xor_getD (by rw [noughts_len, h]), noughts_getD, xor_zero]
theorem xor_same {a : Bytes} : Sp.xor a a = noughts a.length := by
  refine bytes_ext (by rw [xor_len, noughts_len, Nat.min_self]) fun t _ => ?_
  rw [xor_getD rfl, noughts_getD, xor_self]
section
variable {c : Code} (k1 : 1 ≤ c.k) (kd : c.k ≤ c.d)
include kd
omit kd in
theorem seg_all (X : List Bytes) (d k : Nat) : ∀ i, i ≤ k → k ≤ d → X.length = above d k →
    ((List.range i).map fun a => ((List.range (d - a)).map fun j => X.getD (above d a + j) []).flatten).flatten = (X.take (above d i)).flatten
  | 0, _, _, _ => rfl
  | i + 1, h, hk, hX => by
    have hm := above_mono d (i := i + 1) (j := k) h
    have e0 : above d (i + 1) = above d i + (d - i) := rfl
    rw [List.range_succ, List.map_append, List.flatten_append, seg_all X d k i (by omega) hk hX, e0, List.take_add, List.flatten_append]
    congr 1
    show (_ ++ []) = _
    rw [List.append_nil]
    show ((List.range (d - i)).map fun j => X.getD (above d i + j) []).flatten = _
    refine congrArg List.flatten ?_
    refine List.ext_getElem (by simp; omega) fun j h1 h2 => ?_
    simp at h1
    simp only [List.getElem_map, List.getElem_range, List.getElem_take, List.getElem_drop]
    rw [List.getD_eq_getElem?_getD, List.getElem?_eq_getElem (by omega)]; rfl
theorem right_of {X : List Bytes} (hX : Shape c.holds c.len X) {p : Nat → UInt8} (hp : ∀ i j, i < c.k → j < c.k → i ≠ j → p i ≠ p j) {nd : Nat → Nat} (hpn : ∀ a, a < c.k → p a = place (nd a)) {h : Nat → Bytes} (hh : ∀ a, a < c.k → h a = (c.rows X (nd a)).flatten) (k1 : 1 ≤ c.k) :
    rightOf c p h = (List.range c.k).map fun i => ((List.range (c.d - c.k)).map fun j => c.entry X i (c.k + j)).flatten := by
  unfold rightOf
  refine throughR_of (L := (c.d - c.k) * c.len) hp k1 ⟨by simp, fun r hr => ?_⟩ fun a ha => ?_
  · obtain ⟨i, hi, rfl⟩ := List.mem_map.mp hr
    rw [List.mem_range] at hi
    rw [flat_len (L := c.len) ?_]
    · simp
    · intro b hb
      obtain ⟨j, hj, rfl⟩ := List.mem_map.mp hb
      rw [List.mem_range] at hj
      exact entry_len kd hX (by omega) (by omega)
  · show (h a).drop (c.k * c.len) = _
    rw [hh a ha, hpn a ha, Nat.mul_comm c.k, flat_drop c.k (rows_shape kd hX _).2, rows_vAt kd hX, map_drop_range]
    rw [vAt_flat (fun i j => c.entry X i (c.k + j)) c.k fun i hi j hj => entry_len kd hX (by omega) (by omega)]
    refine congrArg List.flatten (map_range_ext fun j hj => ?_)
    refine vAt_head kd (r := fun i => c.entry X i (c.k + j)) (fun i hi => entry_len kd hX hi (by omega)) fun i h1 h2 => ?_
    show c.entry X i (c.k + j) = _
    unfold Code.entry
    rw [if_pos (by omega)]
theorem lower_of {X : List Bytes} (hX : Shape c.holds c.len X) : lower c ((List.range c.k).map fun i => ((List.range (c.d - c.k)).map fun j => c.entry X i (c.k + j)).flatten) = (List.range c.d).map fun i => ((List.range c.k).map fun j => if i < c.k then noughts c.len else c.entry X i j).flatten := by
  unfold lower
  refine List.ext_getElem (by simp; omega) fun i h1 h2 => ?_
  simp only [List.length_map, List.length_range] at h2
  rw [List.getElem_map, List.getElem_range]
  by_cases hi : i < c.k
  · rw [List.getElem_append_left (by simpa using hi), List.getElem_replicate, flat_noughts]
    refine congrArg List.flatten (List.ext_getElem (by simp) fun j h3 h4 => ?_)
    simp [hi]
  · rw [List.getElem_append_right (by simpa using (by omega : c.k ≤ i))]
    simp only [List.getElem_map, List.getElem_range, List.length_replicate]
    refine congrArg List.flatten (map_range_ext fun j hj => ?_)
    rw [if_neg hi, getD_range _ _ hj, entry_symm X i j]
    have hs : Shape (c.d - c.k) c.len ((List.range (c.d - c.k)).map fun q => c.entry X j (c.k + q)) := ⟨by simp, fun b hb => by
      obtain ⟨q, hq, rfl⟩ := List.mem_map.mp hb
      rw [List.mem_range] at hq
      exact entry_len kd hX (by omega) (by omega)⟩
    have e := rowsOf_flat hs
    have e2 := congrArg (fun l : List Bytes => l.getD (i - c.k) []) e
    unfold rowsOf at e2
    rw [getD_range _ _ (by omega), getD_range _ _ (by omega)] at e2
    rw [e2, show c.k + (i - c.k) = i by omega]
theorem left_of {X : List Bytes} (hX : Shape c.holds c.len X) {p : Nat → UInt8} (hp : ∀ i j, i < c.k → j < c.k → i ≠ j → p i ≠ p j) {nd : Nat → Nat} (hpn : ∀ a, a < c.k → p a = place (nd a)) {h : Nat → Bytes} (hh : ∀ a, a < c.k → h a = (c.rows X (nd a)).flatten) (k1 : 1 ≤ c.k) :
    leftOf c p h = (List.range c.k).map fun i => ((List.range c.k).map fun j => c.entry X i j).flatten := by
  unfold leftOf
  rw [right_of kd hX hp hpn hh k1, lower_of kd hX]
  refine throughR_of (L := c.k * c.len) hp k1 ⟨by simp, fun r hr => ?_⟩ fun a ha => ?_
  · obtain ⟨i, hi, rfl⟩ := List.mem_map.mp hr
    rw [List.mem_range] at hi
    rw [flat_len (L := c.len) ?_]
    · simp
    · intro b hb
      obtain ⟨j, hj, rfl⟩ := List.mem_map.mp hb
      rw [List.mem_range] at hj
      exact entry_len kd hX (by omega) (by omega)
  · show Sp.xor ((h a).take (c.k * c.len)) _ = _
    have L1 : ∀ i, i < c.d → ∀ j, j < c.k → (if i < c.k then noughts c.len else c.entry X i j).length = c.len := fun i hi j hj => by
      split
      · exact noughts_len _
      · exact entry_len kd hX hi (by omega)
    have L2 : ∀ i, i < c.d → ∀ j, j < c.k → (c.entry X i j).length = c.len := fun i hi j hj => entry_len kd hX hi (by omega)
    rw [hh a ha, hpn a ha]
    conv => lhs; arg 1; rw [Nat.mul_comm c.k, flat_take c.k (rows_shape kd hX _).2, rows_vAt kd hX, map_take_range _ kd]
    rw [vAt_flat (fun i j => if i < c.k then noughts c.len else c.entry X i j) c.d L1]
    rw [vAt_flat (fun i j => c.entry X i j) c.k fun i hi j hj => L2 i (by omega) j hj]
    rw [flat_xor (L := c.len) (by simp)]
    · refine congrArg List.flatten (List.ext_getElem (by simp) fun j h1 h2 => ?_)
      simp only [List.length_map, List.length_range] at h2
      simp only [List.getElem_zipWith, List.getElem_map, List.getElem_range]
      rw [vAt_xor (r := fun i => c.entry X i j) (s := fun i => if i < c.k then noughts c.len else c.entry X i j) (fun i hi => L2 i hi j h2) (fun i hi => L1 i hi j h2)]
      rw [vAt_head kd (r := fun i => Sp.xor (c.entry X i j) (if i < c.k then noughts c.len else c.entry X i j))]
      · congr 1
        refine map_range_ext fun i hi => ?_
        rw [if_pos hi, xor_noughts (L2 i (by omega) j h2)]
      · intro i hi
        show (Sp.xor _ _).length = _
        rw [xor_len, L2 i hi j h2, L1 i hi j h2, Nat.min_self]
      · intro i h3 h4
        show Sp.xor _ _ = _
        rw [if_neg (by omega), xor_same, L2 i h4 j h2]
    · intro b hb
      obtain ⟨j, hj, rfl⟩ := List.mem_map.mp hb
      rw [List.mem_range] at hj
      exact vAt_len fun q hq => by
        obtain ⟨i, hi, rfl⟩ := List.mem_map.mp hq
        exact L2 i (List.mem_range.mp hi) j hj
    · intro b hb
      obtain ⟨j, hj, rfl⟩ := List.mem_map.mp hb
      rw [List.mem_range] at hj
      exact vAt_len fun q hq => by
        obtain ⟨i, hi, rfl⟩ := List.mem_map.mp hq
        exact L1 i (List.mem_range.mp hi) j hj
theorem likely_of {X : List Bytes} (hX : Shape c.holds c.len X) {p : Nat → UInt8} (hp : ∀ i j, i < c.k → j < c.k → i ≠ j → p i ≠ p j) {nd : Nat → Nat} (hpn : ∀ a, a < c.k → p a = place (nd a)) {h : Nat → Bytes} (hh : ∀ a, a < c.k → h a = (c.rows X (nd a)).flatten) (k1 : 1 ≤ c.k) : likely c p h = X.flatten := by
  unfold likely
  rw [right_of kd hX hp hpn hh k1, left_of kd hX hp hpn hh k1]
  have e := seg_all X c.d c.k c.k (Nat.le_refl _) kd (by rw [hX.1, holds_eq kd])
  rw [List.take_of_length_le (by rw [hX.1, holds_eq kd]; exact Nat.le_refl _)] at e
  rw [← e]
  refine congrArg List.flatten (map_range_ext fun i hi => ?_)
  rw [getD_range _ _ hi, getD_range _ _ hi, Nat.mul_comm i, flat_drop i (fun b hb => by
    obtain ⟨j, hj, rfl⟩ := List.mem_map.mp hb
    rw [List.mem_range] at hj
    exact entry_len kd hX (by omega) (by omega)), map_drop_range, ← List.flatten_append]
  refine congrArg List.flatten (List.ext_getElem (by simp; omega) fun j h1 h2 => ?_)
  simp only [List.length_map, List.length_range] at h2
  rw [List.getElem_map, List.getElem_range]
  have hE : ∀ q, i ≤ q → c.entry X i q = X.getD (above c.d i + (q - i)) [] := fun q hq => by
    unfold Code.entry
    rw [if_neg (by omega), Nat.min_eq_left hq, Nat.max_eq_right hq, which_eq]
  by_cases hj : j < c.k - i
  · rw [List.getElem_append_left (by simpa using hj), List.getElem_map, List.getElem_range, hE _ (by omega), show i + j - i = j by omega]
  · rw [List.getElem_append_right (by simpa using (by omega : c.k - i ≤ j))]
    simp only [List.getElem_map, List.getElem_range, List.length_map, List.length_range]
    rw [hE _ (by omega), show c.k + (j - (c.k - i)) - i = j by omega]
end
end Tld
end
section
namespace Tld
open Sp Fld Pol Gau Rw
theorem foldl_xsum (f : Nat → UInt8) : ∀ n, ((List.range n).map f).foldl (fun (a b : UInt8) => a ^^^ b) 0 = xsum n f
  | 0 => rfl
  | n + 1 => by rw [List.range_succ, List.map_append, List.foldl_append, foldl_xsum f n]; rfl
theorem xsum_swap (F : Nat → Nat → UInt8) (m : Nat) : ∀ n, xsum n (fun y => xsum m fun i => F i y) = xsum m fun i => xsum n fun y => F i y
  | 0 => (xsum_zero fun i _ => rfl).symm
  | n + 1 => by
    show xsum n (fun y => xsum m fun i => F i y) ^^^ xsum m (fun i => F i n) = _
    rw [xsum_swap F m n, ← xsum_xor]; rfl
theorem dot_range (n : Nat) (g x : Nat → UInt8) : dot ((List.range n).map g) x = xsum n fun i => mul8 (g i) (x i) := by
  unfold dot
  rw [List.length_map, List.length_range]
  exact xsum_congr fun i hi => by rw [getD_range g 0 hi]
section
variable {c : Code} (kd : c.k ≤ c.d)
include kd
theorem often_dot {f j : Nat} (hj : j < c.d) (x : Nat → UInt8) : dot ((List.range c.holds).map (c.often f j)) x = xsum c.d fun i => mul8 (power (place f) i) (if c.k ≤ min i j then 0 else x (c.which (min i j) (max i j))) := by
  rw [dot_range]
  have e : ∀ y, mul8 (c.often f j y) (x y) = xsum c.d fun i => mul8 (if c.k ≤ min i j then 0 else if c.which (min i j) (max i j) = y then power (place f) i else 0) (x y) := fun y => by
    unfold Code.often
    rw [foldl_xsum, mul_comm, ← xsum_mul]
    exact xsum_congr fun i _ => by rw [mul_comm]
  rw [xsum_congr fun y _ => e y, xsum_swap (fun i y => mul8 (if c.k ≤ min i j then 0 else if c.which (min i j) (max i j) = y then power (place f) i else 0) (x y))]
  refine xsum_congr fun i hi => ?_
  by_cases h : c.k ≤ min i j
  · simp only [if_pos h]
    rw [xsum_zero fun y _ => zero_mul _, mul_zero]
  · simp only [if_neg h]
    rw [xsum_one (j := c.which (min i j) (max i j)) (which_lt kd (by omega) (by omega) (by omega))]
    · rw [if_pos rfl]
    · intro y _ hy
      rw [if_neg (fun e => hy e.symm), zero_mul]
theorem rows_byte {X : List Bytes} (hX : Shape c.holds c.len X) {f j : Nat} (hj : j < c.d) (t : Nat) : ((c.rows X f).getD j []).getD t 0 = dot ((List.range c.holds).map (c.often f j)) (col X t) := by
  rw [often_dot kd hj]
  unfold Code.rows
  rw [getD_range _ _ hj, sumOf_getD (g := fun i => (power (place f) i, c.entry X i j)) t fun i hi => entry_len kd hX hi hj]
  refine xsum_congr fun i hi => ?_
  dsimp only
  congr 1
  unfold Code.entry
  split
  · exact noughts_getD _ _
  · rfl
end
theorem place_inj {a b : Nat} (ha : a < 255) (hb : b < 255) (h : place a = place b) : a = b := by
  unfold place at h
  have := congrArg UInt8.toNat h
  rw [UInt8.toNat_ofNat', UInt8.toNat_ofNat'] at this
  omega
theorem getD_inj {l : List Nat} (hn : l.Nodup) {i j : Nat} (hi : i < l.length) (hj : j < l.length) (hij : i ≠ j) : l.getD i 0 ≠ l.getD j 0 := by
  rw [List.getD_eq_getElem?_getD, List.getD_eq_getElem?_getD, List.getElem?_eq_getElem hi, List.getElem?_eq_getElem hj]
  intro e
  exact hij ((List.getElem_inj hn).mp e)
theorem getD_mem {l : List Nat} {i : Nat} (hi : i < l.length) : l.getD i 0 ∈ l := by
  rw [List.getD_eq_getElem?_getD, List.getElem?_eq_getElem hi]; exact List.getElem_mem hi
theorem places_ne {l : List Nat} (hn : l.Nodup) (h9 : ∀ f ∈ l, f < 9) {m : Nat} (hm : m ≤ l.length) : ∀ i j, i < m → j < m → i ≠ j → place (l.getD i 0) ≠ place (l.getD j 0) := by
  intro i j hi hj hij e
  have h1 := h9 _ (getD_mem (l := l) (i := i) (by omega))
  have h2 := h9 _ (getD_mem (l := l) (i := j) (by omega))
  exact getD_inj hn (by omega) (by omega) hij (place_inj (by omega) (by omega) e)
section
variable {c : Code} (k1 : 1 ≤ c.k) (kd : c.k ≤ c.d) {l : List Nat} (hn : l.Nodup) (h9 : ∀ f ∈ l, f < 9)
include k1 kd hn h9
theorem uniq (hl : c.k ≤ l.length) {X Y : List Bytes} (hX : Shape c.holds c.len X) (hY : Shape c.holds c.len Y) (h : ∀ f ∈ l, c.rows X f = c.rows Y f) : X = Y := by
  have hp := places_ne hn h9 hl
  have e1 := likely_of kd hX hp (nd := fun a => l.getD a 0) (fun a _ => rfl) (h := fun a => (c.rows X (l.getD a 0)).flatten) (fun a _ => rfl) k1
  have e2 := likely_of kd hY hp (nd := fun a => l.getD a 0) (fun a _ => rfl) (h := fun a => (c.rows X (l.getD a 0)).flatten) (fun a ha => by rw [h _ (getD_mem (by omega))]) k1
  exact shape_flat_inj hX hY (e1.symm.trans e2)
omit k1 kd hn h9 in
theorem says_mem {rows : Nat → List Bytes} {e : Eq_} : e ∈ c.says l rows ↔ ∃ f ∈ l, ∃ j, j < c.d ∧ e = ((List.range c.holds).map (c.often f j), (rows f).getD j []) := by
  unfold Code.says
  simp only [List.mem_flatMap, List.mem_map, List.mem_range]
  constructor
  · rintro ⟨f, hf, j, hj, rfl⟩; exact ⟨f, hf, j, hj, rfl⟩
  · rintro ⟨f, hf, j, hj, rfl⟩; exact ⟨f, hf, j, hj, rfl⟩
omit k1 kd hn h9 in
theorem getD_len {n L : Nat} {A : List Bytes} (h : Shape n L A) {j : Nat} (hj : j < n) : (A.getD j []).length = L := by
  rw [List.getD_eq_getElem?_getD, List.getElem?_eq_getElem (by rw [h.1]; exact hj)]
  exact h.2 _ (List.getElem_mem _)
omit k1 kd hn h9 in
theorem shape_ext {n L : Nat} {A B : List Bytes} (hA : Shape n L A) (hB : Shape n L B) (h : ∀ j, j < n → ∀ t, t < L → (A.getD j []).getD t 0 = (B.getD j []).getD t 0) : A = B := by
  refine List.ext_getElem (by rw [hA.1, hB.1]) fun j h1 h2 => ?_
  have l1 := hA.2 _ (List.getElem_mem h1)
  have l2 := hB.2 _ (List.getElem_mem h2)
  refine bytes_ext (by rw [l1, l2]) fun t ht => ?_
  have := h j (by have := hA.1; omega) t (by omega)
  rwa [List.getD_eq_getElem?_getD (l := A), List.getD_eq_getElem?_getD (l := B), List.getElem?_eq_getElem h1, List.getElem?_eq_getElem h2] at this
omit k1 kd hn h9 in
theorem says_wf {rows : Nat → List Bytes} (hr : ∀ f ∈ l, Shape c.d c.len (rows f)) : ∀ e ∈ c.says l rows, Wf c.holds c.len e := by
  intro e he
  obtain ⟨f, hf, j, hj, rfl⟩ := says_mem.mp he
  exact ⟨by simp, getD_len (hr f hf) hj⟩
theorem says_ker (hl : c.k ≤ l.length) {rows : Nat → List Bytes} (x : Nat → UInt8) (h : ∀ e ∈ c.says l rows, Ker x e) : ∀ i, i < c.holds → x i = 0 := by
  have go : ∀ c' : Code, c'.k = c.k → c'.d = c.d → c'.len = 1 → ∀ i, i < c.holds → x i = 0 := by
    intro c' e1 e2 e3 i hi
    have eh : c'.holds = c.holds := by unfold Code.holds; rw [e1, e2]
    have ew : ∀ i j, c'.which i j = c.which i j := fun i j => by unfold Code.which; rw [e2]
    have eo : ∀ f j y, c'.often f j y = c.often f j y := fun f j y => by unfold Code.often; simp only [e1, e2, ew]
    have hX : Shape c'.holds c'.len ((List.range c.holds).map fun i => [x i]) := ⟨by simp [eh], fun r hr => by
      obtain ⟨q, _, rfl⟩ := List.mem_map.mp hr; rw [e3]; rfl⟩
    have hY : Shape c'.holds c'.len ((List.range c.holds).map fun i => [(0 : UInt8)]) := ⟨by simp [eh], fun r hr => by
      obtain ⟨q, _, rfl⟩ := List.mem_map.mp hr; rw [e3]; rfl⟩
    have kd' : c'.k ≤ c'.d := by omega
    have e := uniq (c := c') (by omega) kd' hn h9 (by omega) hX hY fun f hf => by
      refine shape_ext (rows_shape kd' hX f) (rows_shape kd' hY f) fun j hj t ht => ?_
      rw [rows_byte kd' hX hj, rows_byte kd' hY hj]
      have t0 : t = 0 := by omega
      subst t0
      have hk := h _ (says_mem.mpr ⟨f, hf, j, by omega, rfl⟩)
      unfold Ker at hk
      dsimp only at hk
      have eo' : (List.range c'.holds).map (c'.often f j) = (List.range c.holds).map (c.often f j) := by
        rw [eh]; exact map_range_ext fun y _ => eo f j y
      rw [eo', dot_range, dot_range]
      rw [dot_range] at hk
      have c1 : xsum c.holds (fun i => mul8 (c.often f j i) (col ((List.range c.holds).map fun i => [x i]) 0 i)) = 0 := by
        rw [← hk]
        refine xsum_congr fun y hy => ?_
        unfold col
        rw [getD_range _ _ hy]; rfl
      have c2 : xsum c.holds (fun i => mul8 (c.often f j i) (col ((List.range c.holds).map fun i => [(0 : UInt8)]) 0 i)) = 0 := by
        refine xsum_zero fun y hy => ?_
        unfold col
        rw [getD_range _ _ hy]; exact mul_zero _
      rw [c1, c2]
    have := congrArg (fun M : List Bytes => M.getD i []) e
    rw [getD_range _ _ hi, getD_range _ _ hi] at this
    exact (List.cons.inj this).1
  exact go ⟨c.k, c.d, c.n, 1⟩ rfl rfl rfl
omit k1 hn h9 in
theorem told_some {rows : Nat → List Bytes} (hr : ∀ f ∈ l, Shape c.d c.len (rows f)) {X : List Bytes} (h : c.told l rows = some X) : Shape c.holds c.len X ∧ ∀ f ∈ l, c.rows X f = rows f := by
  obtain ⟨hX, hs⟩ := solve_some (says_wf hr) h
  refine ⟨hX, fun f hf => shape_ext (rows_shape kd hX f) (hr f hf) fun j hj t ht => ?_⟩
  rw [rows_byte kd hX hj]
  exact hs t _ (says_mem.mpr ⟨f, hf, j, hj, rfl⟩)
theorem told_one (hl : c.k ≤ l.length) {rows : Nat → List Bytes} (hr : ∀ f ∈ l, Shape c.d c.len (rows f)) {X : List Bytes} (hX : Shape c.holds c.len X) (h : ∀ f ∈ l, c.rows X f = rows f) : c.told l rows = some X := by
  refine solve_one (says_wf hr) (says_ker k1 kd hn h9 hl) hX fun t ht e he => ?_
  obtain ⟨f, hf, j, hj, rfl⟩ := says_mem.mp he
  show dot _ _ = ((rows f).getD j []).getD t 0
  rw [← rows_byte kd hX hj, h f hf]
end
def toldM (c : Code) (l : List Nat) (held : List Bytes) : Option Bytes :=
  if (l.zip held).all (fun q => decide (vAt (c.d * c.len) (place q.1) (square c (rowsOf c.len c.holds (likely c (fun a => place (l.getD a 0)) fun a => held.getD a []))) = q.2)) = true
  then some (likely c (fun a => place (l.getD a 0)) fun a => held.getD a []) else none
section
variable {c : Code} (k1 : 1 ≤ c.k) (kd : c.k ≤ c.d)
include k1 kd
theorem lower_len {R : List Bytes} (hR : ∀ r ∈ R, r.length = (c.d - c.k) * c.len) (hl : R.length = c.k) : Shape c.d (c.k * c.len) (lower c R) := by
  unfold lower
  refine ⟨by simp; omega, fun r hr => ?_⟩
  rcases List.mem_append.mp hr with h | h
  · rw [(List.mem_replicate.mp h).2, noughts_len]
  · obtain ⟨a, ha, rfl⟩ := List.mem_map.mp h
    rw [List.mem_range] at ha
    rw [flat_len (L := c.len)]
    · simp
    · intro b hb
      obtain ⟨j, hj, rfl⟩ := List.mem_map.mp hb
      rw [List.mem_range] at hj
      have h1 : (R.getD j []).length = (c.d - c.k) * c.len := getD_len (n := c.k) ⟨hl, hR⟩ hj
      have h2 := (rowsOf_shape (L := c.len) (n := c.d - c.k) h1).2 (Sp.part (R.getD j []) (c.len * a) c.len) (List.mem_map.mpr ⟨a, List.mem_range.mpr ha, rfl⟩)
      exact h2
theorem right_shape (p : Nat → UInt8) {h : Nat → Bytes} (hh : ∀ a, a < c.k → (h a).length = c.d * c.len) : Shape c.k ((c.d - c.k) * c.len) (rightOf c p h) := by
  have hv : ∀ a, a < c.k → ((h a).drop (c.k * c.len)).length = (c.d - c.k) * c.len := fun a ha => by
    rw [List.length_drop, hh a ha, ← Nat.sub_mul]
  exact ⟨throughR_len hv k1, (throughR_all hv k1).1⟩
theorem left_shape (p : Nat → UInt8) {h : Nat → Bytes} (hh : ∀ a, a < c.k → (h a).length = c.d * c.len) : Shape c.k (c.k * c.len) (leftOf c p h) := by
  have hR := right_shape k1 kd p hh
  have hv : ∀ a, a < c.k → (Sp.xor ((h a).take (c.k * c.len)) (vAt (c.k * c.len) (p a) (lower c (rightOf c p h)))).length = c.k * c.len := fun a ha => by
    rw [xor_len, List.length_take, hh a ha, vAt_len (lower_len k1 kd hR.2 hR.1).2]
    have : c.k * c.len ≤ c.d * c.len := Nat.mul_le_mul_right _ kd
    omega
  exact ⟨throughR_len hv k1, (throughR_all hv k1).1⟩
theorem likely_len (p : Nat → UInt8) {h : Nat → Bytes} (hh : ∀ a, a < c.k → (h a).length = c.d * c.len) : (likely c p h).length = c.holds * c.len := by
  have hR := right_shape k1 kd p hh
  have hL := left_shape k1 kd p hh
  have go : ∀ m, m ≤ c.k → (((List.range m).map fun i => ((leftOf c p h).getD i []).drop (i * c.len) ++ (rightOf c p h).getD i []).flatten).length = above c.d m * c.len := by
    intro m
    induction m with
    | zero => intro _; simp [above]
    | succ m ih =>
      intro hm
      rw [List.range_succ, List.map_append, List.flatten_append, List.length_append, ih (by omega)]
      simp only [List.map_cons, List.map_nil, List.flatten_cons, List.flatten_nil, List.append_nil, List.length_append, List.length_drop]
      rw [getD_len hL (by omega), getD_len hR (by omega)]
      show _ = (above c.d m + (c.d - m)) * c.len
      rw [Nat.add_mul, ← Nat.sub_mul, ← Nat.add_mul, show c.k - m + (c.d - c.k) = c.d - m by omega]
  unfold likely
  rw [go c.k (Nat.le_refl _), holds_eq kd]
theorem toldM_eq {l : List Nat} (hn : l.Nodup) (h9 : ∀ f ∈ l, f < 9) (hl : c.k ≤ l.length) {held : List Bytes} (hh : Shape l.length (c.d * c.len) held) {rows : Nat → List Bytes} (hr : ∀ i, i < l.length → rows (l.getD i 0) = rowsOf c.len c.d (held.getD i [])) :
    toldM c l held = (c.told l rows).map List.flatten := by
  have hS : ∀ f ∈ l, Shape c.d c.len (rows f) := fun f hf => by
    obtain ⟨i, hi, rfl⟩ := List.mem_iff_getElem.mp hf
    have e := hr i hi
    rw [List.getD_eq_getElem?_getD, List.getElem?_eq_getElem hi] at e
    rw [show l[i] = (some l[i]).getD 0 from rfl, e]
    exact rowsOf_shape (getD_len hh hi)
  have hlen : (likely c (fun a => place (l.getD a 0)) fun a => held.getD a []).length = c.holds * c.len := likely_len k1 kd _ fun a ha => getD_len hh (by omega)
  have hall : ∀ {X : List Bytes}, Shape c.holds c.len X → ((l.zip held).all (fun q => decide (vAt (c.d * c.len) (place q.1) (square c X) = q.2)) = true ↔ ∀ f ∈ l, c.rows X f = rows f) := by
    intro X hX
    rw [List.all_eq_true]
    constructor
    · intro h f hf
      obtain ⟨i, hi, rfl⟩ := List.mem_iff_getElem.mp hf
      have hi2 : i < held.length := by rw [hh.1]; exact hi
      have := of_decide_eq_true (h (l[i], held[i]) (List.mem_iff_getElem.mpr ⟨i, by simp; omega, by simp⟩))
      dsimp only at this
      rw [node_flat kd hX] at this
      have e := hr i hi
      rw [List.getD_eq_getElem?_getD, List.getElem?_eq_getElem hi, List.getD_eq_getElem?_getD, List.getElem?_eq_getElem hi2] at e
      show _ = rows ((some l[i]).getD 0)
      rw [e]
      show c.rows X l[i] = rowsOf c.len c.d held[i]
      rw [← this, rowsOf_flat (rows_shape kd hX _)]
    · intro h q hq
      obtain ⟨i, hi, rfl⟩ := List.mem_iff_getElem.mp hq
      have hi : i < l.length ∧ i < (held).length := by rw [List.length_zip] at hi; omega
      refine decide_eq_true ?_
      rw [node_flat kd hX, List.getElem_zip]
      dsimp only
      rw [h _ (List.getElem_mem _)]
      have e := hr i hi.1
      rw [List.getD_eq_getElem?_getD, List.getElem?_eq_getElem hi.1, List.getD_eq_getElem?_getD, List.getElem?_eq_getElem hi.2] at e
      rw [show rows l[i] = rowsOf c.len c.d held[i] from e]
      exact flat_rowsOf (hh.2 _ (List.getElem_mem _))
  unfold toldM
  split
  · rename_i h
    have hX := rowsOf_shape (n := c.holds) (L := c.len) hlen
    rw [told_one k1 kd hn h9 hl hS hX ((hall hX).mp h)]
    show _ = some _
    rw [flat_rowsOf hlen]
  · rename_i h
    cases e : c.told l rows with
    | none => rfl
    | some X =>
      exfalso
      obtain ⟨hX, h2⟩ := told_some kd hS e
      have e3 := likely_of kd hX (places_ne hn h9 hl) (nd := fun a => l.getD a 0) (fun a _ => rfl) (h := fun a => held.getD a []) (fun a ha => by
        rw [h2 _ (getD_mem (by omega)), hr a (by omega), flat_rowsOf (getD_len hh (by omega))]) k1
      rw [e3, rowsOf_flat hX] at h
      exact h ((hall hX).mpr h2)
end
def againM (c : Code) (l : List Nat) (parts : List Bytes) : Option Bytes :=
  if (l.zip parts).all (fun q => decide (vAt c.len (place q.1) (throughR (fun a => place (l.getD a 0)) (fun a => parts.getD a []) c.d) = q.2)) = true
  then some (throughR (fun a => place (l.getD a 0)) (fun a => parts.getD a []) c.d).flatten else none
section
variable {c : Code} (d1 : 1 ≤ c.d) {l : List Nat} (hn : l.Nodup) (h9 : ∀ f ∈ l, f < 9) (hl : c.d ≤ l.length)
theorem again_byte {R : List Bytes} (hR : Shape c.d c.len R) (f t : Nat) : (vAt c.len (place f) R).getD t 0 = dot ((List.range c.d).map (power (place f))) (col R t) := by
  rw [vAt_getD t hR.2, dot_range]
  rw [show (R.map fun r => r.getD t 0) = (List.range c.d).map fun i => col R t i by
    refine List.ext_getElem (by simp [hR.1]) fun i h1 h2 => ?_
    simp only [List.length_map] at h1
    simp [col, h1]]
  rw [ev_range]
include hn h9 hl in
theorem again_ker {parts : Nat → Bytes} (x : Nat → UInt8) (h : ∀ e ∈ (l.map fun (h : Nat) => ((List.range c.d).map (power (place h)), parts h) : List Eq_), Ker x e) : ∀ i, i < c.d → x i = 0 := by
  have h1 := roots_zero (l.map place) ((List.range c.d).map x) ?_ (by simpa using hl) ?_
  · intro i hi
    exact h1 (x i) (List.mem_map.mpr ⟨i, List.mem_range.mpr hi, rfl⟩)
  · refine List.pairwise_map.mpr (List.Pairwise.imp_of_mem ?_ hn)
    intro a b ha hb hab e
    exact hab (place_inj (by have := h9 a ha; omega) (by have := h9 b hb; omega) e)
  · intro q hq
    obtain ⟨f, hf, rfl⟩ := List.mem_map.mp hq
    have := h _ (List.mem_map.mpr ⟨f, hf, rfl⟩)
    unfold Ker at this
    dsimp only at this
    rw [dot_range] at this
    rw [ev_range, this]
theorem again_wf {parts : Nat → Bytes} (hp : ∀ f ∈ l, (parts f).length = c.len) : ∀ e ∈ (l.map fun (h : Nat) => ((List.range c.d).map (power (place h)), parts h) : List Eq_), Wf c.d c.len e := by
  intro e he
  obtain ⟨f, hf, rfl⟩ := List.mem_map.mp he
  exact ⟨by simp, hp f hf⟩
theorem again_some {parts : Nat → Bytes} (hp : ∀ f ∈ l, (parts f).length = c.len) {R : List Bytes} (h : c.again l parts = some R) : Shape c.d c.len R ∧ ∀ f ∈ l, vAt c.len (place f) R = parts f := by
  obtain ⟨hR, hs⟩ := solve_some (again_wf hp) h
  refine ⟨hR, fun f hf => bytes_ext (by rw [vAt_len hR.2, hp f hf]) fun t _ => ?_⟩
  rw [again_byte hR]
  exact hs t _ (List.mem_map.mpr ⟨f, hf, rfl⟩)
include hn h9 hl in
theorem again_one {parts : Nat → Bytes} (hp : ∀ f ∈ l, (parts f).length = c.len) {R : List Bytes} (hR : Shape c.d c.len R) (h : ∀ f ∈ l, vAt c.len (place f) R = parts f) : c.again l parts = some R := by
  refine solve_one (again_wf hp) (again_ker hn h9 hl) hR fun t ht e he => ?_
  obtain ⟨f, hf, rfl⟩ := List.mem_map.mp he
  show dot _ _ = (parts f).getD t 0
  rw [← again_byte hR, h f hf]
include hn h9 hl d1 in
theorem againM_eq {ps : List Bytes} (hh : Shape l.length c.len ps) {parts : Nat → Bytes} (hr : ∀ i, i < l.length → parts (l.getD i 0) = ps.getD i []) :
    againM c l ps = (c.again l parts).map List.flatten := by
  have hS : ∀ f ∈ l, (parts f).length = c.len := fun f hf => by
    obtain ⟨i, hi, rfl⟩ := List.mem_iff_getElem.mp hf
    have e := hr i hi
    rw [List.getD_eq_getElem?_getD, List.getElem?_eq_getElem hi] at e
    rw [show l[i] = (some l[i]).getD 0 from rfl, e]
    exact getD_len hh hi
  have hv : ∀ a, a < c.d → (ps.getD a []).length = c.len := fun a ha => getD_len hh (by omega)
  have hall : ∀ {R : List Bytes}, ((l.zip ps).all (fun q => decide (vAt c.len (place q.1) R = q.2)) = true ↔ ∀ f ∈ l, vAt c.len (place f) R = parts f) := by
    intro R
    rw [List.all_eq_true]
    constructor
    · intro h f hf
      obtain ⟨i, hi, rfl⟩ := List.mem_iff_getElem.mp hf
      have hi2 : i < ps.length := by rw [hh.1]; exact hi
      have := of_decide_eq_true (h (l[i], ps[i]) (List.mem_iff_getElem.mpr ⟨i, by simp; omega, by simp⟩))
      dsimp only at this
      have e := hr i hi
      rw [List.getD_eq_getElem?_getD, List.getElem?_eq_getElem hi, List.getD_eq_getElem?_getD, List.getElem?_eq_getElem hi2] at e
      rw [this]; exact e.symm
    · intro h q hq
      obtain ⟨i, hi, rfl⟩ := List.mem_iff_getElem.mp hq
      have hi : i < l.length ∧ i < (ps).length := by rw [List.length_zip] at hi; omega
      refine decide_eq_true ?_
      rw [List.getElem_zip]
      dsimp only
      rw [h _ (List.getElem_mem _)]
      have e := hr i hi.1
      rw [List.getD_eq_getElem?_getD, List.getElem?_eq_getElem hi.1, List.getD_eq_getElem?_getD, List.getElem?_eq_getElem hi.2] at e
      exact e
  unfold againM
  split
  · rename_i h
    rw [again_one hn h9 hl hS ⟨throughR_len hv d1, (throughR_all hv d1).1⟩ (hall.mp h)]
    rfl
  · rename_i h
    cases e : c.again l parts with
    | none => rfl
    | some R =>
      exfalso
      obtain ⟨hR, h2⟩ := again_some hS e
      have e3 := throughR_of (p := fun a => place (l.getD a 0)) (v := fun a => ps.getD a []) (places_ne hn h9 hl) d1 hR (fun a ha => by
        show ps.getD a [] = _
        rw [← hr a (by omega), h2 _ (getD_mem (by omega))])
      rw [e3] at h
      exact h (hall.mpr h2)
end
end Tld
end
section
namespace L2
open PySem PySem.Spec PyProof.Rows
abbrev Key := Sum Int Str
def keyIs : Key → Value → Bool
  | .inl k, v => Value.isInt k v
  | .inr x, v => Value.isStrOf x v
def keyH (w : World) : Key → Int
  | .inl k => hashInt k
  | .inr x => hashStr w x
theorem keyIs_shape : ∀ {k : Key} {v : Value}, keyIs k v = true → (∃ i t, k = Sum.inl i ∧ v = Value.int i t) ∨ (∃ x t, k = Sum.inr x ∧ v = Value.str x t)
  | .inl i, v, h => by
    obtain ⟨t, e⟩ := Value.isInt_shape (k := i) (v := v) h
    exact .inl ⟨i, t, rfl, e⟩
  | .inr x, v, h => by
    obtain ⟨t, e⟩ := Value.isStrOf_shape (x := x) (v := v) h
    exact .inr ⟨x, t, rfl, e⟩
theorem key_ll (a b : Int) : decide ((Sum.inl a : Key) = Sum.inl b) = (a == b) := by
  by_cases e : a = b
  · subst e; simp
  · have h : ¬ (Sum.inl a : Key) = Sum.inl b := fun q => e (Sum.inl.inj q)
    rw [decide_eq_false h]
    exact (beq_eq_false_iff_ne.mpr e).symm
theorem key_rr (a b : Str) : decide ((Sum.inr a : Key) = Sum.inr b) = decide (a = b) := by
  by_cases e : a = b
  · subst e; simp
  · have h : ¬ (Sum.inr a : Key) = Sum.inr b := fun q => e (Sum.inr.inj q)
    rw [decide_eq_false h, decide_eq_false e]
theorem key_lr (a : Int) (b : Str) : decide ((Sum.inl a : Key) = Sum.inr b) = false := decide_eq_false (fun q => nomatch q)
theorem key_rl (a : Str) (b : Int) : decide ((Sum.inr a : Key) = Sum.inl b) = false := decide_eq_false (fun q => nomatch q)
def mixKind (prog : Program) (w : World) : PySem.KeyKind prog w Key where
  is := keyIs
  hash := keyH w
  inj := fun v a b ha hb => by
    rcases keyIs_shape ha with ⟨i, t, rfl, rfl⟩ | ⟨x, t, rfl, rfl⟩
    · rcases keyIs_shape hb with ⟨j, u, rfl, e⟩ | ⟨y, u, rfl, e⟩
      · injection e with e1 _; rw [e1]
      · exact nomatch e
    · rcases keyIs_shape hb with ⟨j, u, rfl, e⟩ | ⟨y, u, rfl, e⟩
      · exact nomatch e
      · injection e with e1 _; rw [e1]
  byValue := fun k v h => by
    rcases keyIs_shape h with ⟨i, t, rfl, rfl⟩ | ⟨x, t, rfl, rfl⟩ <;> rfl
  pyHash := fun hv h => by
    rcases keyIs_shape hv with ⟨i, t, rfl, rfl⟩ | ⟨x, t, rfl, rfl⟩
    · exact wpAny_pyHash_int h
    · exact wpAny_pyHash_str h
  eqBool := fun hu hv h => by
    rcases keyIs_shape hu with ⟨i, t, rfl, rfl⟩ | ⟨x, t, rfl, rfl⟩
    · rcases keyIs_shape hv with ⟨j, u, rfl, rfl⟩ | ⟨y, u, rfl, rfl⟩
      · rw [key_ll] at h; exact wpAny_eqBool_int h
      · rw [key_lr] at h; exact SeqAt.EqAt.int_str i t y u _ _ _ _ h
    · rcases keyIs_shape hv with ⟨j, u, rfl, rfl⟩ | ⟨y, u, rfl, rfl⟩
      · rw [key_rl] at h; exact SeqAt.EqAt.str_int x t j u _ _ _ _ h
      · rw [key_rr] at h; exact wpAny_eqBool_str h
  «strs» := fun k x t v h => by
    rcases keyIs_shape h with ⟨i, u, rfl, e⟩ | ⟨y, u, rfl, e⟩
    · exact nomatch e
    · injection e with e1 _
      subst e1
      cases v <;> rfl
end L2
namespace L2
open PySem PySem.Spec PyProof.Rows
inductive V where
  | non | bl (b : Bool) | int (i : Int) | str (x : Str) | byt (b : Array UInt8) | flt (b : UInt64) | ref (a : Addr) | ty (n : String)
  deriving DecidableEq
def RelV : V → Value → Prop
  | .non, u => u = Value.none
  | .bl b, u => u = Value.bool b
  | .int i, u => ∃ t, u = Value.int i t
  | .str x, u => ∃ t, u = Value.str x t
  | .byt b, u => ∃ t, u = Value.bytes b t
  | .flt b, u => ∃ t, u = Value.float b t
  | .ref a, u => u = Value.ref a
  | .ty n, u => u = Value.type n
abbrev Vals : List V → List Value → Prop := Paired RelV
theorem Vals.length {xs : List V} {us : List Value} (r : Vals xs us) : xs.length = us.length := Paired.length r
theorem Vals.get : ∀ {xs : List V} {us : List Value} {i : Nat} {x : V}, Vals xs us → xs[i]? = some x → ∃ u, us[i]? = some u ∧ RelV x u
  | _, _, _, _, .nil, e => by simp at e
  | _, _, 0, _, .cons r _, e => by simp at e; subst e; exact ⟨_, rfl, r⟩
  | _, _, i + 1, x, .cons _ t, e => by
    obtain ⟨u, h1, h2⟩ := Vals.get (i := i) (x := x) t (by simpa using e)
    exact ⟨u, by simpa using h1, h2⟩
theorem Vals.set {x : V} {u : Value} (r : RelV x u) : ∀ {xs : List V} {us : List Value} (i : Nat), Vals xs us → Vals (xs.set i x) (us.set i u)
  | _, _, _, .nil => .nil
  | _, _, 0, .cons _ t => .cons r t
  | _, _, i + 1, .cons q t => .cons q (Vals.set r i t)
theorem Vals.append : ∀ {xs ys : List V} {us ws : List Value}, Vals xs us → Vals ys ws → Vals (xs ++ ys) (us ++ ws)
  | _, _, _, _, .nil, s => s
  | _, _, _, _, .cons r t, s => .cons r (Vals.append t s)
theorem Vals.take : ∀ {xs : List V} {us : List Value} (n : Nat), Vals xs us → Vals (xs.take n) (us.take n)
  | _, _, 0, _ => .nil
  | _, _, _ + 1, .nil => .nil
  | _, _, n + 1, .cons r t => .cons r (Vals.take n t)
theorem Vals.drop : ∀ {xs : List V} {us : List Value} (n : Nat), Vals xs us → Vals (xs.drop n) (us.drop n)
  | _, _, 0, r => r
  | _, _, _ + 1, .nil => .nil
  | _, _, n + 1, .cons _ t => Vals.drop n t
def RelO : Option V → Option Value → Prop
  | some v, some u => RelV v u
  | none, none => True
  | _, _ => False
def KV {κ : Type} : List (κ × V) → List (κ × Value) → Prop := Paired fun (p : κ × V) (q : κ × Value) => p.1 = q.1 ∧ RelV p.2 q.2
def kV : Key → V
  | .inl i => .int i
  | .inr x => .str x
inductive HO where
  | lst (xs : List V)
  | tup (xs : List V)
  | dK (kvs : List (Key × V)) | dT (kvs : List (List Key × V))
  | set (S : Int → Bool) (n : Nat)
  | ins (C dx : Addr) (fs : List (Str × V))
  | own (x : Addr)
  | xd (fs : List (Str × V))
  | met (f x : Addr)
  | rng (lo hi : Int)
  | frz (o : Obj) (u : HO)
  | tbl (ps : Array Value)
  | ext (φ : Heap → Prop)
abbrev Hp := Addr → Option HO
def upd (H : Hp) (a : Addr) (o : HO) : Hp := fun b => if b = a then some o else H b
theorem upd_same {H : Hp} {a : Addr} {o : HO} : upd H a o a = some o := by unfold upd; rw [if_pos rfl]
theorem upd_ne {H : Hp} {a b : Addr} {o : HO} (h : b ≠ a) : upd H a o b = H b := by unfold upd; rw [if_neg h]
theorem ne_of_none {H : Hp} {a b : Addr} {o : HO} (h : H a = some o) (h' : H b = none) : a ≠ b := by
  intro e; subst e; rw [h] at h'; cases h'
section
variable (P : Program) (w : World)
def ObjOk (H : Hp) (h : Heap) (a : Addr) : HO → Prop
  | .lst xs => xs.length ≤ sizeLine ∧ ∃ (its : List Value) (n : Nat), Vals xs its ∧ h.get? a = some { cls := .type "list", data := .seq its.toArray n }
  | .tup xs => xs.length ≤ sizeLine ∧ ∃ its : List Value, Vals xs its ∧ IsTup h a its.toArray
  | .dK kvs => kvs.length ≤ sizeLine ∧ (a == sysModules) = false ∧ ∃ vs, KV kvs vs ∧ h.DictOf (mixKind P w) a vs
  | .dT kvs => kvs.length ≤ sizeLine ∧ (a == sysModules) = false ∧ ∃ xs : List (List Key × Addr × Value),
      Paired (fun (p : List Key × V) (q : List Key × Addr × Value) => p.1 = q.1 ∧ H q.2.1 = some (.tup (p.1.map kV)) ∧ RelV p.2 q.2.2) kvs xs ∧
      ∃ o es ep, h.get? a = some o ∧ o.ExactDict ∧ o.data = .dict es ep ∧ es.toList = xs.map (entryOfKey (tupleKind (mixKind P w))) ∧ (xs.map (·.1)).Nodup
  | .set S n => h.SetOf (intKind P w) a S n
  | .ins C dx fs => H dx = some (.own a) ∧ fs.length ≤ 1000 ∧ dx ≠ a ∧ h.get? a = some (PySem.W.instObj C dx) ∧
      ∃ mA, h.Ns1 dx mA ∧ (∀ f, RelO (fs.lookup f) (mA f)) ∧ PySem.Within mA (fs.map (·.1))
  | .own _ => ∃ o, h.get? a = some o
  | .xd fs => ∃ mA, h.Ns1 a mA ∧ ∀ f, RelO (fs.lookup f) (mA f)
  | .rng lo hi => ∃ t u v, h.get? a = some { cls := .type "range", data := .fields #[.int lo t, .int hi u, .int 1 v] }
  | .frz o u => h.get? a = some o ∧ ObjOk H h a u
  | .tbl ps => h.get? a = some { cls := .none, data := .fields ps }
  | .met f x => h.get? a = some (PySem.W.methodObj (.ref f) (.ref x))
  | .ext φ => φ h ∧ (∃ o, h.get? a = some o) ∧ ∀ h1 h2 : Heap, φ h1 → (∀ o, h1.get? a = some o → h2.get? a = some o) → φ h2
def HOk (H : Hp) (h : Heap) : Prop := ∀ a o, H a = some o → ObjOk P w H h a o
end
section
variable {P : Program} {w : World} {H H' : Hp} {h h' : Heap} {a : Addr} {o : HO}
theorem ObjOk.lt (x : ObjOk P w H h a o) : a < h.objs.size := by
  cases o with
  | lst xs => obtain ⟨_, _, _, _, e⟩ := x; exact Heap.lt_size e
  | tup xs => obtain ⟨_, _, _, p⟩ := x; exact p.lt
  | dK kvs => obtain ⟨_, _, _, _, o, _, _, e, _⟩ := x; exact Heap.lt_size e
  | dT kvs => obtain ⟨_, _, _, _, o, _, _, e, _⟩ := x; exact Heap.lt_size e
  | set S n => obtain ⟨o, _, _, _, e, _⟩ := x; exact Heap.lt_size e
  | ins C dx fs => obtain ⟨_, _, _, e, _⟩ := x; exact Heap.lt_size e
  | own y => obtain ⟨_, e⟩ := x; exact Heap.lt_size e
  | xd fs => obtain ⟨_, ⟨_, _, _, e, _⟩, _⟩ := x; exact Heap.lt_size e
  | rng lo hi => obtain ⟨_, _, _, e⟩ := x; exact Heap.lt_size e
  | frz ob u => obtain ⟨e, _⟩ := x; exact Heap.lt_size e
  | tbl ps => exact Heap.lt_size (show h.get? a = some _ from x)
  | met f y => exact Heap.lt_size (show h.get? a = some _ from x)
  | ext φ => obtain ⟨_, ⟨_, e⟩, _⟩ := x; exact Heap.lt_size e
theorem Paired.mapP {α β : Type} {F G : α → β → Prop} : ∀ {l₁ : List α} {l₂ : List β}, Paired F l₁ l₂ → (∀ a b, F a b → G a b) → Paired G l₁ l₂
  | _, _, .nil, _ => .nil
  | _, _, .cons r t, f => .cons (f _ _ r) (Paired.mapP t f)
theorem ObjOk.stay (x : ObjOk P w H h a o) (k : ∀ b u, (b = a ∨ H b = some (.own a)) → h.get? b = some u → h'.get? b = some u)
    (ho : ∀ b, H b = some (.own a) → H' b = some (.own a)) (ht : ∀ b xs, H b = some (.tup xs) → H' b = some (.tup xs)) : ObjOk P w H' h' a o := by
  induction o with
  | lst xs => obtain ⟨z, its, n, r, e⟩ := x; exact ⟨z, its, n, r, k _ _ (.inl rfl) e⟩
  | tup xs => obtain ⟨z, its, r, ob, e, c⟩ := x; exact ⟨z, its, r, ob, k _ _ (.inl rfl) e, c⟩
  | dK kvs => obtain ⟨z, y, vs, r, ob, es, ep, e, c⟩ := x; exact ⟨z, y, vs, r, ob, es, ep, k _ _ (.inl rfl) e, c⟩
  | dT kvs =>
    obtain ⟨z, y, xs, r, ob, es, ep, e, c⟩ := x
    exact ⟨z, y, xs, Paired.mapP r fun p q z => ⟨z.1, ht _ _ z.2.1, z.2.2⟩, ob, es, ep, k _ _ (.inl rfl) e, c⟩
  | set S n => obtain ⟨ob, es, ep, t, e, c⟩ := x; exact ⟨ob, es, ep, t, k _ _ (.inl rfl) e, c⟩
  | ins C dx fs =>
    obtain ⟨d, z, ne, e, mA, ⟨od, es, ep, e2, c⟩, r⟩ := x
    exact ⟨ho _ d, z, ne, k _ _ (.inl rfl) e, mA, ⟨od, es, ep, k _ _ (.inr d) e2, c⟩, r⟩
  | own y => obtain ⟨ob, e⟩ := x; exact ⟨ob, k _ _ (.inl rfl) e⟩
  | xd fs => obtain ⟨mA, ⟨od, es, ep, e, c⟩, r⟩ := x; exact ⟨mA, ⟨od, es, ep, k _ _ (.inl rfl) e, c⟩, r⟩
  | rng lo hi => obtain ⟨t, u, v, e⟩ := x; exact ⟨t, u, v, k _ _ (.inl rfl) e⟩
  | frz ob u ih => obtain ⟨e, q⟩ := x; exact ⟨k _ _ (.inl rfl) e, ih q⟩
  | tbl ps =>
    have e : h.get? a = some { cls := .none, data := .fields ps } := x
    show h'.get? a = some { cls := .none, data := .fields ps }
    exact k a _ (.inl rfl) e
  | met f y =>
    have e : h.get? a = some (PySem.W.methodObj (.ref f) (.ref y)) := x
    show h'.get? a = some (PySem.W.methodObj (.ref f) (.ref y))
    exact k a _ (.inl rfl) e
  | ext φ => obtain ⟨p, ⟨o, e⟩, st⟩ := x; exact ⟨st _ _ p fun o q => k _ _ (.inl rfl) q, ⟨o, k _ _ (.inl rfl) e⟩, st⟩
theorem HOk.lt (x : HOk P w H h) (e : H a = some o) : a < h.objs.size := (x a o e).lt
theorem HOk.fresh (x : HOk P w H h) (e : h.objs.size ≤ a) : H a = none := by
  cases q : H a with
  | none => rfl
  | some u => exact absurd (Nat.lt_of_lt_of_le (x.lt q) e) (Nat.lt_irrefl _)
theorem HOk.kept (x : HOk P w H h) (k : ∀ b u, h.get? b = some u → h'.get? b = some u) : HOk P w H h' := fun a o e =>
  (x a o e).stay (fun b u _ q => k b u q) (fun _ q => q) fun _ _ q => q
theorem HOk.laid (x : HOk P w H h) (k : ∀ b u, h.get? b = some u → h'.get? b = some u) (hp : h.objs.size ≤ a) (new : ObjOk P w (upd H a o) h' a o) : HOk P w (upd H a o) h' := fun b u e => by
  have hn := x.fresh hp
  by_cases hb : b = a
  · subst hb; rw [upd_same] at e; cases e; exact new
  · rw [upd_ne hb] at e
    exact (x b u e).stay (fun c v _ q => k c v q) (fun c q => by rw [upd_ne (ne_of_none q hn)]; exact q) fun c xs q => by rw [upd_ne (ne_of_none q hn)]; exact q
end
def Rd (H : Hp) (a : Addr) (u : HO) : Prop := H a = some u ∨ ∃ o, H a = some (.frz o u)
theorem Rd.ok {P : Program} {w : World} {H : Hp} {h : Heap} {a : Addr} {u : HO} (r : Rd H a u) (x : HOk P w H h) : ObjOk P w H h a u := by
  rcases r with r | ⟨o, r⟩
  · exact x a u r
  · obtain ⟨_, q⟩ := x a _ r
    exact q
def Mut : Option HO → Prop
  | some (.lst _) => True
  | some (.dK _) => True
  | some (.dT _) => True
  | some (.set _ _) => True
  | some (.ins _ _ _) => True
  | some (.ext _) => True
  | _ => False
section
variable {P : Program} {w : World} {H : Hp} {h h' : Heap} {x e : Addr} {o' : HO}
theorem HOk.write (ok : HOk P w H h) (mu : Mut (H x)) (he : e = x ∨ H e = some (.own x)) (k : ∀ b u, b ≠ e → h.get? b = some u → h'.get? b = some u) (heo : ∃ u, h'.get? e = some u)
    (new : ObjOk P w (upd H x o') h' x o') : HOk P w (upd H x o') h' := fun b u q => by
  have nown : ∀ c y, H c = some (.own y) → c ≠ x := fun c y r z => by subst z; rw [r] at mu; exact mu
  have ntup : ∀ c xs, H c = some (.tup xs) → c ≠ x := fun c xs r z => by subst z; rw [r] at mu; exact mu
  by_cases hb : b = x
  · subst hb; rw [upd_same] at q; cases q; exact new
  · rw [upd_ne hb] at q
    by_cases hbe : b = e
    · have q' : H b = some (.own x) := by
        rcases he with z | z
        · exact absurd (hbe.trans z) hb
        · rw [hbe]; exact z
      rw [q] at q'; cases q'
      obtain ⟨v, hv⟩ := heo
      exact ⟨v, by rw [hbe]; exact hv⟩
    · refine (ok b u q).stay (fun c v hc r => k c v ?_ r) (fun c r => by rw [upd_ne (nown c b r)]; exact r) fun c xs r => by rw [upd_ne (ntup c xs r)]; exact r
      rcases hc with rfl | hc
      · exact hbe
      · rintro rfl
        rcases he with z | z
        · exact nown c b hc z
        · rw [hc] at z; cases z; exact hb rfl
end
structure Un (fs ex : List Addr) (H H' : Hp) (h h' : Heap) : Prop where
  keep : ∀ b o, h.get? b = some o → H b = none → b ∉ fs → b ∉ ex → h'.get? b = some o
  slot : ∀ b o, h.get? b = some o → H b = none → b ∈ fs → b ∉ ex → ∃ sl, h'.get? b = some { o with slots := sl }
  free : ∀ b o, h.get? b = some o → H b = none → b ∉ ex → H' b = none
  there : ∀ b o, h.get? b = some o → b ∉ ex → ∃ o', h'.get? b = some o'
  tups : ∀ b xs, H b = some (.tup xs) → H' b = some (.tup xs)
  frzs : ∀ b o u, H b = some (.frz o u) → H' b = some (.frz o u)
  tbls : ∀ b ps, H b = some (.tbl ps) → ∃ more, H' b = some (.tbl (ps ++ more))
section
variable {fs fs' ex ex' : List Addr} {H H1 H2 : Hp} {h h1 h2 h' : Heap} {a x e : Addr} {o : HO}
theorem Un.any (u : Un fs ex H H1 h h1) {b : Addr} {ob : Obj} (q : h.get? b = some ob) (n : H b = none) (hx : b ∉ ex) : ∃ sl, h1.get? b = some { ob with slots := sl } := by
  by_cases hb : b ∈ fs
  · exact u.slot b ob q n hb hx
  · exact ⟨ob.slots, u.keep b ob q n hb hx⟩
theorem Un.kept (k : ∀ b u, h.get? b = some u → h'.get? b = some u) : Un fs ex H H h h' :=
  ⟨fun b ob q _ _ _ => k b ob q, fun b ob q _ _ _ => ⟨ob.slots, k b ob q⟩, fun _ _ _ n _ => n, fun b ob q _ => ⟨ob, k b ob q⟩, fun _ _ q => q, fun _ _ _ q => q, fun _ ps q => ⟨#[], by rw [q]; simp⟩⟩
theorem Un.refl : Un fs ex H H h h := Un.kept fun _ _ q => q
theorem Un.laid (k : ∀ b u, h.get? b = some u → h'.get? b = some u) (hp : h.objs.size ≤ a) (hn : H a = none) : Un fs ex H (upd H a o) h h' where
  keep := fun b u q _ _ _ => k b u q
  slot := fun b u q _ _ _ => ⟨u.slots, k b u q⟩
  free := fun b u q n _ => by rw [upd_ne (Nat.ne_of_lt (Nat.lt_of_lt_of_le (Heap.lt_size q) hp))]; exact n
  there := fun b u q _ => ⟨u, k b u q⟩
  tups := fun b xs q => by rw [upd_ne (ne_of_none q hn)]; exact q
  frzs := fun b u xs q => by rw [upd_ne (ne_of_none q hn)]; exact q
  tbls := fun b ps q => ⟨#[], by rw [upd_ne (ne_of_none q hn), q]; simp⟩
theorem Un.write (mu : Mut (H x)) (he : e = x ∨ H e = some (.own x)) (k : ∀ b u, b ≠ e → h.get? b = some u → h'.get? b = some u) (heo : ∃ u, h'.get? e = some u) : Un fs ex H (upd H x o) h h' := by
  have hx : ∀ b, H b = none → b ≠ x := fun b n z => by subst z; rw [n] at mu; exact mu
  have hb : ∀ b, H b = none → b ≠ e := fun b n z => by
    subst z
    rcases he with r | r
    · exact hx b n r
    · rw [n] at r; cases r
  have hm : ∀ b u, H b = some u → ¬ Mut (some u) → b ≠ x := fun b u q nm z => by subst z; rw [q] at mu; exact nm mu
  refine ⟨fun b u q n _ _ => k b u (hb b n) q, fun b u q n _ _ => ⟨u.slots, k b u (hb b n) q⟩, fun b u q n _ => by rw [upd_ne (hx b n)]; exact n, fun b u q _ => ?_,
    fun b xs q => by rw [upd_ne (hm b _ q fun z => z)]; exact q, fun b u xs q => by rw [upd_ne (hm b _ q fun z => z)]; exact q, fun b ps q => ⟨#[], by rw [upd_ne (hm b _ q fun z => z), q]; simp⟩⟩
  by_cases hbe : b = e
  · subst hbe; exact heo
  · exact ⟨u, k b u hbe q⟩
end
def trk (h : Heap) (H : Hp) : List Addr := (List.range h.objs.size).filter fun a => (H a).isSome
def hidT (h : Heap) (H : Hp) : Heap := PySem.W.hideAll h (trk h H)
theorem hidT_size (h : Heap) (H : Hp) : (hidT h H).objs.size = h.objs.size := PySem.W.hideAll_size _ _
theorem hidT_get {h : Heap} {H : Hp} {b : Addr} {o : Obj} (e : h.get? b = some o) (n : H b = none) : (hidT h H).get? b = some o :=
  PySem.W.hideAll_get _ e fun hm => by
    have q : (H b).isSome = true := (List.mem_filter.mp hm).2
    rw [n] at q; simp at q
theorem of_hidT {h : Heap} {H : Hp} {b : Addr} {o : Obj} (e : (hidT h H).get? b = some o) : h.get? b = some o ∧ H b = none := by
  have e' : h.get? b = some o := PySem.W.of_hideAll (trk h H) e
  refine ⟨e', ?_⟩
  cases q : H b with
  | none => rfl
  | some x =>
    have hm : b ∈ trk h H := List.mem_filter.mpr ⟨List.mem_range.mpr (Heap.lt_size e'), by simp [q]⟩
    have z : (hidT h H).get? b = none := PySem.W.hideAll_none (trk h H) hm
    rw [z] at e; cases e
end L2
namespace L2
open PySem PySem.Spec PyProof.Rows
structure Mod (K : PySem.W.Frag) (mg : Str → Option Value) (base : Heap) : Prop where
  kin : K.In base
  glob : base.Ns mainGlobals mg
  blt : ∃ mb, base.Ns builtinsNs mb ∧ ∀ x : Str, x ≠ "__name__" → mb x = bootBuiltins x
  nolimit : base.NoLimit
/-- the context: a def's body (or a comprehension's block) running. base: fixed through the whole law; s₀, H₀: the entry; outer: the frames whose slots others may change (a def's callers); stack: all frames that run;
   ex: iterators that were made ahead of the entry and are walked here (a comprehension's); fn: the names whose cells were made at the entry (a def: all; a comprehension's block: its own); calm: not within an except suite; pn: pins that every state bears; xe: what is wanted of an exception that leaves the code -/
structure Cx where
  prog : Program
  w : World
  K : PySem.W.Frag
  mg : Str → Option Value
  base : Heap
  A : Around
  N : List Str
  s_0 : Shared
  H_0 : Hp
  env : Env
  outer : List Env
  stack : List Env
  ex : List Addr
  fn : Str → Bool
  calm : Bool
  pn : List (Addr × Obj)
  xe : Value → Shared → Prop
def frs (l : List Env) : List Addr := l.filterMap (·.frame)
abbrev Cx.fs (X : Cx) : List Addr := frs X.outer
def Vis (sc : Scope) (x : Str) : Prop := sc.names.lookup x = some .local ∨ sc.names.lookup x = some .cell ∨ sc.names.lookup x = some .free
def Loc (sc : Scope) (x : Str) : Prop := sc.names.lookup x = some .local ∨ sc.names.lookup x = some .cell
def Look (env : Env) (h : Heap) (m : Str → Option Value) (x : Str) (u : Value) : Prop :=
  (env.kindOf x = some .local ∧ m x = some u) ∨ ((env.kindOf x = some .cell ∨ env.kindOf x = some .free) ∧ ∃ c, env.cells.lookup x = some c ∧ h.IsCell c (some u))
structure Cx.Ok (X : Cx) : Prop where
  mod : Mod X.K X.mg X.base
  kind : X.env.scope.kind = .function
  glob : X.env.globals = mainGlobals
  blt : X.env.builtins = builtinsNs
  above : X.s_0.heap.objs.size ≤ X.env.locals
  inj : ∀ x y c, X.env.cells.lookup x = some c → X.env.cells.lookup y = some c → x = y
  has : ∀ x, (X.env.kindOf x = some .cell ∨ X.env.kindOf x = some .free) → ∃ c, X.env.cells.lookup x = some c
  cab : ∀ x c, X.fn x = true → X.env.cells.lookup x = some c → X.s_0.heap.objs.size ≤ c
  hd : X.calm = true → X.A.handled = none
  frames : X.A.frames = some X.stack
  stk : X.stack = X.outer ∨ (X.stack = X.env :: X.outer ∧ X.env.frame = some X.env.locals)
  exf : ∀ b ∈ X.ex, b ≠ X.env.locals ∧ ∀ x c, X.env.cells.lookup x = some c → c ≠ b
  bs : ∀ b o, X.base.get? b = some o → X.s_0.heap.get? b = some o ∧ X.H_0 b = none
  bsz : X.base.objs.size ≤ X.s_0.heap.objs.size
  noex : ∀ b o, X.base.get? b = some o → b ∉ X.ex
  exfs : ∀ b ∈ X.ex, b ∉ X.fs
  funs : X.s_0.heap.FunFrames X.base X.outer
  frf : ∀ b ∈ X.fs, X.H_0 b = none
structure Inv (X : Cx) (pins : List (Addr × Obj)) (σ : List (Option V)) (H : Hp) (s : Shared) : Prop where
  ok : X.Ok
  os : s.os = X.s_0.os
  bare : AllBare s.gens
  base : Un X.fs X.ex X.H_0 H X.s_0.heap s.heap
  loc : ∃ m, s.heap.Ns X.env.locals m ∧ ∀ (i : Nat) (x : Str) (v : V), X.N[i]? = some x → σ[i]? = some (some v) → Vis X.env.scope x → ∃ u, RelV v u ∧ Look X.env s.heap m x u
  cell : ∀ x c, X.env.cells.lookup x = some c → ∃ v, s.heap.IsCell c v
  free : H X.env.locals = none
  freeC : ∀ x c, X.env.cells.lookup x = some c → H c = none
  pin : ∀ p ∈ X.pn ++ pins, s.heap.get? p.1 = some p.2 ∧ H p.1 = none ∧ p.1 ≠ X.env.locals ∧ p.1 ∉ X.fs ∧ ∀ v, p.2.data ≠ .cell v
  hok : HOk X.prog X.w H s.heap
  len : σ.length = X.N.length
section
variable {X : Cx} {pins : List (Addr × Obj)} {σ : List (Option V)} {H H' : Hp} {s : Shared} {h' : Heap}
theorem Cx.Ok.nofr (ok : X.Ok) {b : Addr} {o : Obj} (e : X.base.get? b = some o) : b ∉ X.fs := fun hb => by
  have := (ok.funs.mem hb).1
  rw [e] at this; cases this
theorem Inv.bs (I : Inv X pins σ H s) : ∀ b o, X.base.get? b = some o → s.heap.get? b = some o ∧ H b = none := fun b o e =>
  ⟨I.base.keep b o (I.ok.bs b o e).1 (I.ok.bs b o e).2 (I.ok.nofr e) (I.ok.noex b o e), I.base.free b o (I.ok.bs b o e).1 (I.ok.bs b o e).2 (I.ok.noex b o e)⟩
theorem Inv.bk (I : Inv X pins σ H s) : ∀ b o, X.base.get? b = some o → s.heap.get? b = some o := fun b o e => (I.bs b o e).1
theorem Inv.mod (I : Inv X pins σ H s) : Mod X.K X.mg X.base := I.ok.mod
theorem Inv.kIn (I : Inv X pins σ H s) : X.K.In s.heap := I.ok.mod.kin.keeps I.bk
theorem Inv.lt (I : Inv X pins σ H s) : X.env.locals < s.heap.objs.size := let ⟨_, hn, _⟩ := I.loc; hn.lt
theorem Inv.sz (I : Inv X pins σ H s) : X.s_0.heap.objs.size ≤ s.heap.objs.size := Nat.le_trans I.ok.above (Nat.le_of_lt I.lt)
theorem Inv.nofs (I : Inv X pins σ H s) {a : Addr} (h : s.heap.objs.size ≤ a) : a ∉ X.fs := fun hb => by
  obtain ⟨_, o, ho, _⟩ := I.ok.funs.mem hb
  exact absurd (Nat.lt_of_lt_of_le (Heap.lt_size ho) (Nat.le_trans I.sz h)) (Nat.lt_irrefl _)
theorem Inv.cne (I : Inv X pins σ H s) : ∀ x c, X.env.cells.lookup x = some c → c ≠ X.env.locals := fun x c e z => by
  obtain ⟨v, o, ho, hd⟩ := I.cell x c e
  obtain ⟨m, ⟨o', es, ep, ho', hd', _⟩, _⟩ := I.loc
  rw [z, ho'] at ho; cases ho; rw [hd'] at hd; cases hd
theorem Inv.funs (I : Inv X pins σ H s) : s.heap.FunFrames X.base X.outer := by
  have all : ∀ (l : List Env), (∀ b ∈ frs l, b ∈ X.fs) → X.s_0.heap.FunFrames X.base l → s.heap.FunFrames X.base l := by
    intro l
    induction l with
    | nil => intro _ _; trivial
    | cons env r ih =>
      intro hs hl
      obtain ⟨hk, ⟨L, o, hf, hn, ho, hd⟩, hr⟩ := hl
      have hL : L ∈ X.fs := hs L (by unfold frs; rw [List.filterMap_cons, hf]; exact List.mem_cons_self)
      obtain ⟨sl, e⟩ := I.base.slot L o ho (I.ok.frf L hL) hL fun z => I.ok.exfs L z hL
      exact ⟨hk, ⟨L, _, hf, hn, e, hd⟩, ih (fun b hb => hs b (by unfold frs; rw [List.filterMap_cons, hf]; exact List.mem_cons_of_mem _ hb)) hr⟩
  exact all X.outer (fun _ hb => hb) I.ok.funs
theorem Inv.stack (I : Inv X pins σ H s) : s.heap.FunFrames X.base X.stack := by
  rcases I.ok.stk with e | ⟨e, hf⟩
  · rw [e]; exact I.funs
  · rw [e]
    obtain ⟨m, hn, _⟩ := I.loc
    refine .cons (by rw [I.ok.kind]; decide) hf hn ?_ I.funs
    exact Heap.get?_none_of_le (Nat.le_trans I.ok.bsz I.ok.above)
theorem Inv.stkSub (I : Inv X pins σ H s) : ∀ b ∈ frs X.stack, b ∈ X.env.locals :: X.fs := fun b hb => by
  rcases I.ok.stk with e | ⟨e, hf⟩
  · rw [e] at hb; exact List.mem_cons_of_mem _ hb
  · rw [e] at hb
    unfold frs at hb
    rw [List.filterMap_cons, hf] at hb
    exact hb
theorem Inv.stkFree (I : Inv X pins σ H s) : ∀ b ∈ frs X.stack, H b = none := fun b hb => by
  rcases List.mem_cons.mp (I.stkSub b hb) with e | hb
  · rw [e]; exact I.free
  · obtain ⟨_, o, ho, _⟩ := I.ok.funs.mem hb
    exact I.base.free b o ho (I.ok.frf b hb) fun z => I.ok.exfs b z hb
theorem Inv.step {g' : Array GenState} {t' : Nat} {d' : Drawn} {ch : List Addr} (I : Inv X pins σ H s)
    (hch : ∀ b ∈ ch, (b ∈ X.ex ∨ X.s_0.heap.objs.size ≤ b) ∧ b ≠ X.env.locals ∧ (∀ x c, X.env.cells.lookup x = some c → c ≠ b) ∧ ∀ p ∈ X.pn ++ pins, p.1 ≠ b)
    (keep : ∀ b o, b ≠ X.env.locals → b ∉ X.fs → b ∉ ch → s.heap.get? b = some o → H b = none → h'.get? b = some o)
    (slot : ∀ b o, b ≠ X.env.locals → b ∈ X.fs → b ∉ ch → s.heap.get? b = some o → H b = none → ∃ sl, h'.get? b = some { o with slots := sl }) (free : ∀ b o, b ∉ ch → s.heap.get? b = some o → H b = none → H' b = none)
    (there : ∀ b o, b ∉ ch → s.heap.get? b = some o → ∃ o', h'.get? b = some o')
    (tups : ∀ b xs, H b = some (.tup xs) → H' b = some (.tup xs)) (frzs : ∀ b o u, H b = some (.frz o u) → H' b = some (.frz o u)) (tbls : ∀ b ps, H b = some (.tbl ps) → ∃ more, H' b = some (.tbl (ps ++ more)))
    (ns : ∀ m, s.heap.Ns X.env.locals m → h'.Ns X.env.locals m) (hok : HOk X.prog X.w H' h') (hg : AllBare g') :
    Inv X pins σ H' { s with heap := h', gens := g', drawn := d', toks := t' } := by
  have neL : ∀ b o, X.s_0.heap.get? b = some o → b ≠ X.env.locals := fun b o e => Nat.ne_of_lt (Nat.lt_of_lt_of_le (Heap.lt_size e) I.ok.above)
  have neC : ∀ b o, X.s_0.heap.get? b = some o → b ∉ X.ex → b ∉ ch := fun b o e hx hb => by
    rcases (hch b hb).1 with z | z
    · exact hx z
    · exact absurd (Nat.lt_of_lt_of_le (Heap.lt_size e) z) (Nat.lt_irrefl _)
  have cellK : ∀ x c, X.env.cells.lookup x = some c → ∀ v, s.heap.IsCell c v → h'.IsCell c v := fun x c e v ⟨o, ho, hd⟩ => by
    have nch : c ∉ ch := fun z => (hch c z).2.2.1 x c e rfl
    by_cases hc : c ∈ X.fs
    · obtain ⟨sl, q⟩ := slot c o (I.cne x c e) hc nch ho (I.freeC x c e)
      exact ⟨_, q, hd⟩
    · exact ⟨o, keep c o (I.cne x c e) hc nch ho (I.freeC x c e), hd⟩
  refine ⟨I.ok, I.os, hg, ⟨fun b o e n hb hx => ?_, fun b o e n hb hx => ?_, fun b o e n hx => ?_, fun b o e hx => ?_, fun b xs e => tups b xs (I.base.tups b xs e), fun b o xs e => frzs b o xs (I.base.frzs b o xs e), fun b ps e => ?_⟩, ?_, fun x c e => ?_, ?_, fun x c e => ?_, fun p hp => ?_, hok, I.len⟩
  · exact keep b o (neL b o e) hb (neC b o e hx) (I.base.keep b o e n hb hx) (I.base.free b o e n hx)
  · obtain ⟨sl, e1⟩ := I.base.slot b o e n hb hx
    obtain ⟨sl', e2⟩ := slot b _ (neL b o e) hb (neC b o e hx) e1 (I.base.free b o e n hx)
    exact ⟨sl', e2⟩
  · obtain ⟨o', e1⟩ := I.base.there b o e hx
    exact free b o' (neC b o e hx) e1 (I.base.free b o e n hx)
  · obtain ⟨o', e1⟩ := I.base.there b o e hx
    exact there b o' (neC b o e hx) e1
  · obtain ⟨m1, e1⟩ := I.base.tbls b ps e
    obtain ⟨m2, e2⟩ := tbls b _ e1
    exact ⟨m1 ++ m2, by rw [e2, Array.append_assoc]⟩
  · obtain ⟨m, hn, hl⟩ := I.loc
    refine ⟨m, ns m hn, fun i x v e1 e2 e3 => ?_⟩
    obtain ⟨u, r, l⟩ := hl i x v e1 e2 e3
    refine ⟨u, r, ?_⟩
    rcases l with l | ⟨k, c, e, z⟩
    · exact .inl l
    · exact .inr ⟨k, c, e, cellK x c e _ z⟩
  · obtain ⟨v, z⟩ := I.cell x c e
    exact ⟨v, cellK x c e v z⟩
  · obtain ⟨m, ⟨o, _, _, ho, _⟩, _⟩ := I.loc
    exact free _ o (fun z => (hch _ z).2.1 rfl) ho I.free
  · obtain ⟨v, o, ho, hd⟩ := I.cell x c e
    exact free c o (fun z => (hch c z).2.2.1 x c e rfl) ho (I.freeC x c e)
  · obtain ⟨e, n, ne, nf, d⟩ := I.pin p hp
    have nch : p.1 ∉ ch := fun z => (hch p.1 z).2.2.2 p hp rfl
    exact ⟨keep p.1 p.2 ne nf nch e n, free p.1 p.2 nch e n, ne, nf, d⟩
theorem Inv.un {t' : Nat} (I : Inv X pins σ H s) (u : Un X.fs [] H H' s.heap h') (hok : HOk X.prog X.w H' h') : Inv X pins σ H' { s with heap := h', toks := t' } := by
  obtain ⟨m, ⟨o, es, ep, ho, r⟩, _⟩ := id I.loc
  obtain ⟨sl, hL⟩ := u.any ho I.free (by simp)
  exact I.step (g' := s.gens) (d' := s.drawn) (ch := []) (fun _ z => nomatch z) (fun b o _ hb _ e n => u.keep b o e n hb (by simp)) (fun b o _ hb _ e n => u.slot b o e n hb (by simp)) (fun b o _ e n => u.free b o e n (by simp)) (fun b o _ e => u.there b o e (by simp)) u.tups u.frzs u.tbls (fun m' hm => by
    obtain ⟨o', es', ep', ho', r'⟩ := hm
    rw [ho] at ho'; cases ho'
    exact ⟨_, es', ep', hL, r'⟩) hok I.bare
theorem Inv.call {g' : Array GenState} {t' : Nat} {d' : Drawn} {ch : List Addr} (I : Inv X pins σ H s) (u : Un (frs X.stack) ch H H' s.heap h') (hok : HOk X.prog X.w H' h') (hg : AllBare g')
    (hch : ∀ b ∈ ch, (b ∈ X.ex ∨ X.s_0.heap.objs.size ≤ b) ∧ b ≠ X.env.locals ∧ (∀ x c, X.env.cells.lookup x = some c → c ≠ b) ∧ ∀ p ∈ X.pn ++ pins, p.1 ≠ b) :
    Inv X pins σ H' { s with heap := h', gens := g', drawn := d', toks := t' } := by
  obtain ⟨m, ⟨o, es, ep, ho, r⟩, _⟩ := id I.loc
  obtain ⟨sl, hL⟩ := u.any ho I.free fun z => (hch _ z).2.1 rfl
  exact I.step (ch := ch) hch (fun b o hL hb hc e n => u.keep b o e n (fun z => (List.mem_cons.mp (I.stkSub b z)).elim hL hb) hc) (fun b o _ _ hc e n => u.any e n hc) (fun b o hc e n => u.free b o e n hc) (fun b o hc e => u.there b o e hc) u.tups u.frzs u.tbls (fun m' hm => by
    obtain ⟨o', es', ep', ho', r'⟩ := hm
    rw [ho] at ho'; cases ho'
    exact ⟨_, es', ep', hL, r'⟩) hok hg
theorem Inv.turned {t' : Nat} {it : Addr} (I : Inv X pins σ H s) (k : ∀ b o, b ≠ it → s.heap.get? b = some o → h'.get? b = some o) (hn : H it = none) (hL : it ≠ X.env.locals)
    (h1 : it ∈ X.ex ∨ X.s_0.heap.objs.size ≤ it) (h2 : ∀ x c, X.env.cells.lookup x = some c → c ≠ it) (h3 : ∀ p ∈ X.pn ++ pins, p.1 ≠ it) : Inv X pins σ H { s with heap := h', toks := t' } := by
  have nit : ∀ b u, H b = some u → b ≠ it := fun b u e z => by rw [z, hn] at e; cases e
  refine I.step (g' := s.gens) (d' := s.drawn) (ch := [it]) (fun b hb => ?_) (fun b o _ _ hc e _ => k b o (fun z => hc (by simp [z])) e) (fun b o _ _ hc e _ => ⟨o.slots, k b o (fun z => hc (by simp [z])) e⟩) (fun _ _ _ _ n => n)
    (fun b o hc e => ⟨o, k b o (fun z => hc (by simp [z])) e⟩) (fun _ _ e => e) (fun _ _ _ e => e) (fun b ps e => ⟨#[], by rw [e]; simp⟩) (fun m hm => ?_) (fun b u e => ?_) I.bare
  · have e : b = it := by simpa using hb
    subst e
    exact ⟨h1, hL, h2, h3⟩
  · obtain ⟨o, es, ep, ho, r⟩ := hm
    exact ⟨o, es, ep, k _ o (Ne.symm hL) ho, r⟩
  · refine (I.hok b u e).stay (fun c v hc q => k c v ?_ q) (fun _ q => q) fun _ _ q => q
    rcases hc with z | z
    · rw [z]; exact nit b u e
    · exact nit c _ z
theorem Inv.tok (I : Inv X pins σ H s) (t : Nat) : Inv X pins σ H { s with toks := t } := I.un (h' := s.heap) (t' := t) Un.refl I.hok
theorem Inv.kept {t' : Nat} (I : Inv X pins σ H s) (k : ∀ b u, s.heap.get? b = some u → h'.get? b = some u) : Inv X pins σ H { s with heap := h', toks := t' } := I.un (Un.kept k) (I.hok.kept k)
theorem Inv.laid {a : Addr} {o : HO} {t' : Nat} (I : Inv X pins σ H s) (k : ∀ b u, s.heap.get? b = some u → h'.get? b = some u) (hp : s.heap.objs.size ≤ a) (new : ObjOk X.prog X.w (upd H a o) h' a o) :
    Inv X pins σ (upd H a o) { s with heap := h', toks := t' } := I.un (Un.laid k hp (I.hok.fresh hp)) (I.hok.laid k hp new)
theorem Inv.write {x e : Addr} {o : HO} {t' : Nat} (I : Inv X pins σ H s) (mu : Mut (H x)) (he : e = x ∨ H e = some (.own x)) (k : ∀ b u, b ≠ e → s.heap.get? b = some u → h'.get? b = some u) (heo : ∃ u, h'.get? e = some u)
    (new : ObjOk X.prog X.w (upd H x o) h' x o) : Inv X pins σ (upd H x o) { s with heap := h', toks := t' } := I.un (Un.write mu he k heo) (I.hok.write mu he k heo new)
theorem Inv.weak {σ' : List (Option V)} (I : Inv X pins σ H s) (hl : σ'.length = σ.length) (w : ∀ (i : Nat) v, σ'[i]? = some (some v) → σ[i]? = some (some v)) : Inv X pins σ' H s :=
  ⟨I.ok, I.os, I.bare, I.base, let ⟨m, hn, hl'⟩ := I.loc; ⟨m, hn, fun i x v e1 e2 e3 => hl' i x v e1 (w i v e2) e3⟩, I.cell, I.free, I.freeC, I.pin, I.hok, hl.trans I.len⟩
theorem Inv.pins_of {pins' : List (Addr × Obj)} (I : Inv X pins σ H s) (h : ∀ p ∈ pins', s.heap.get? p.1 = some p.2 ∧ H p.1 = none ∧ p.1 ≠ X.env.locals ∧ p.1 ∉ X.fs ∧ ∀ v, p.2.data ≠ .cell v) : Inv X pins' σ H s :=
  ⟨I.ok, I.os, I.bare, I.base, I.loc, I.cell, I.free, I.freeC, fun p hp => (List.mem_append.mp hp).elim (fun z => I.pin p (List.mem_append_left _ z)) (h p), I.hok, I.len⟩
theorem nodup_ix {N : List Str} (hN : N.Nodup) {i j : Nat} {x : Str} (a : N[i]? = some x) (b : N[j]? = some x) : i = j := by
  obtain ⟨h1, e1⟩ := List.getElem?_eq_some_iff.mp a
  obtain ⟨h2, e2⟩ := List.getElem?_eq_some_iff.mp b
  exact (List.getElem_inj hN).mp (e1.trans e2.symm)
theorem store_ok2 {M : Model} {A : Around} {E : Value → Shared → Prop} {i : Nat} {x : Str} {v : V} {u : Value} {Q : Unit → Shared → Prop} (I : Inv X pins σ H s) (hN : X.N.Nodup) (hi : X.N[i]? = some x) (hx : Loc X.env.scope x) (r : RelV v u)
    (h : ∀ s', Inv X pins (σ.set i (some v)) H s' → (∃ a, Heap.SameBut a s.heap s'.heap ∧ (a = X.env.locals ∨ X.env.cells.lookup x = some a)) → Q () s') (hf : X.fn x = true ∨ X.env.scope.names.lookup x = some .local := by first | exact .inl rfl | exact .inr rfl | assumption) : wpAny M A (storeName X.env x u) Q E s := by
  obtain ⟨m, hn, hl⟩ := id I.loc
  have hcls : (X.env.scope.kind == .class || (X.env.scope.kind == .module && X.env.locals != X.env.globals)) = false := by rw [I.ok.kind]; rfl
  have hiσ : i < σ.length := by rw [I.len]; exact (List.getElem?_eq_some_iff.mp hi).1
  have cne := I.cne
  have tracked : ∀ {a : Addr} {h' : Heap}, (∃ o, s.heap.get? a = some o ∧ H a = none) → Heap.SameBut a s.heap h' → HOk X.prog X.w H h' := fun {a h'} ha hs b ob e => by
    obtain ⟨_, _, hfree⟩ := ha
    refine (I.hok b ob e).stay (fun c w' hc q => (hs.2 c ?_).trans q) (fun _ q => q) fun _ _ q => q
    rintro rfl
    rcases hc with rfl | hc
    · rw [hfree] at e; cases e
    · rw [hfree] at hc; cases hc
  rcases hx with hk | hk
  · refine wpAny_storeName_local hk hn (fun h' hn' hs => ?_) hcls
    obtain ⟨oL, _, _, hoL, _⟩ := id hn
    refine h _ ⟨I.ok, I.os, I.bare, ⟨fun b o e n hb hx => ?_, fun b o e n hb hx => ?_, I.base.free, fun b o e hx => ?_, I.base.tups, I.base.frzs, I.base.tbls⟩, ⟨_, hn', fun j y v' e1 e2 e3 => ?_⟩, fun y c e => ?_, I.free, I.freeC, fun p hp => ?_, tracked ⟨oL, hoL, I.free⟩ hs, by simpa using I.len⟩ ⟨_, hs, .inl rfl⟩
    · exact (hs.2 b (Nat.ne_of_lt (Nat.lt_of_lt_of_le (Heap.lt_size e) I.ok.above))).trans (I.base.keep b o e n hb hx)
    · obtain ⟨sl, e1⟩ := I.base.slot b o e n hb hx
      exact ⟨sl, (hs.2 b (Nat.ne_of_lt (Nat.lt_of_lt_of_le (Heap.lt_size e) I.ok.above))).trans e1⟩
    · obtain ⟨o', e1⟩ := I.base.there b o e hx
      exact ⟨o', (hs.2 b (Nat.ne_of_lt (Nat.lt_of_lt_of_le (Heap.lt_size e) I.ok.above))).trans e1⟩
    · by_cases hj : j = i
      · subst hj
        rw [hi] at e1; cases e1
        rw [List.getElem?_set_self hiσ] at e2
        cases e2
        exact ⟨u, r, .inl ⟨hk, by simp⟩⟩
      · rw [List.getElem?_set_ne (Ne.symm hj)] at e2
        obtain ⟨u', r', q⟩ := hl j y v' e1 e2 e3
        refine ⟨u', r', ?_⟩
        rcases q with ⟨k, e⟩ | ⟨k, c, e, z⟩
        · refine .inl ⟨k, ?_⟩
          have : y ≠ x := fun e => hj (nodup_ix hN e1 (e ▸ hi))
          simp [this, e]
        · exact .inr ⟨k, c, e, z.sameBut hs (cne y c e)⟩
    · obtain ⟨w', z⟩ := I.cell y c e
      exact ⟨w', z.sameBut hs (cne y c e)⟩
    · obtain ⟨e, n, ne, nf, d⟩ := I.pin p hp
      exact ⟨(hs.2 p.1 ne).trans e, n, ne, nf, d⟩
  · have hfn : X.fn x = true := by
      rcases hf with z | z
      · exact z
      · rw [z] at hk; cases hk
    obtain ⟨c, hc⟩ := I.ok.has x (.inl hk)
    obtain ⟨w', z⟩ := I.cell x c hc
    refine wpAny_storeName_cell I.ok.kind hk hc z (fun h' hc' hs => ?_)
    obtain ⟨oc, hoc, hocd⟩ := id z
    refine h { s with heap := h' } ⟨I.ok, I.os, I.bare, ⟨fun b o e n hb hx => ?_, fun b o e n hb hx => ?_, I.base.free, fun b o e hx => ?_, I.base.tups, I.base.frzs, I.base.tbls⟩, ⟨m, hn.sameBut hs (Ne.symm (cne x c hc)), fun j y v' e1 e2 e3 => ?_⟩, fun y c' e => ?_, I.free, I.freeC, fun p hp => ?_, tracked ⟨oc, hoc, I.freeC x c hc⟩ hs, by simpa using I.len⟩ ⟨c, hs, .inr hc⟩
    · exact (hs.2 b (Nat.ne_of_lt (Nat.lt_of_lt_of_le (Heap.lt_size e) (I.ok.cab x c hfn hc)))).trans (I.base.keep b o e n hb hx)
    · obtain ⟨sl, e1⟩ := I.base.slot b o e n hb hx
      exact ⟨sl, (hs.2 b (Nat.ne_of_lt (Nat.lt_of_lt_of_le (Heap.lt_size e) (I.ok.cab x c hfn hc)))).trans e1⟩
    · obtain ⟨o', e1⟩ := I.base.there b o e hx
      exact ⟨o', (hs.2 b (Nat.ne_of_lt (Nat.lt_of_lt_of_le (Heap.lt_size e) (I.ok.cab x c hfn hc)))).trans e1⟩
    · by_cases hj : j = i
      · subst hj
        rw [hi] at e1; cases e1
        rw [List.getElem?_set_self hiσ] at e2
        cases e2
        exact ⟨u, r, .inr ⟨.inl hk, c, hc, hc'⟩⟩
      · rw [List.getElem?_set_ne (Ne.symm hj)] at e2
        obtain ⟨u', r', q⟩ := hl j y v' e1 e2 e3
        refine ⟨u', r', ?_⟩
        rcases q with q | ⟨k, c', e, z'⟩
        · exact .inl q
        · refine .inr ⟨k, c', e, z'.sameBut hs ?_⟩
          rintro rfl
          exact hj (nodup_ix hN e1 (I.ok.inj _ _ _ e hc ▸ hi))
    · by_cases hcc : c' = c
      · subst hcc; exact ⟨_, hc'⟩
      · obtain ⟨w2, z2⟩ := I.cell y c' e
        exact ⟨w2, z2.sameBut hs hcc⟩
    · obtain ⟨e, n, ne, nf, d⟩ := I.pin p hp
      refine ⟨(hs.2 p.1 ?_).trans e, n, ne, nf, d⟩
      intro q
      rw [q, hoc] at e
      have q' : oc = p.2 := Option.some.inj e
      exact d w' (by rw [← q']; exact hocd)
theorem store_ok {M : Model} {A : Around} {E : Value → Shared → Prop} {i : Nat} {x : Str} {v : V} {u : Value} {Q : Unit → Shared → Prop} (I : Inv X pins σ H s) (hN : X.N.Nodup) (hi : X.N[i]? = some x) (hx : Loc X.env.scope x) (r : RelV v u)
    (h : ∀ s', Inv X pins (σ.set i (some v)) H s' → Q () s') (hf : X.fn x = true ∨ X.env.scope.names.lookup x = some .local := by first | exact .inl rfl | exact .inr rfl | assumption) : wpAny M A (storeName X.env x u) Q E s :=
  store_ok2 I hN hi hx r (fun s' I' _ => h s' I') hf
theorem Inv.call' {s' : Shared} {ch : List Addr} (I : Inv X pins σ H s) (ho : s'.os = s.os) (u : Un (frs X.stack) ch H H' s.heap s'.heap) (hok : HOk X.prog X.w H' s'.heap) (hg : AllBare s'.gens)
    (hch : ∀ b ∈ ch, (b ∈ X.ex ∨ X.s_0.heap.objs.size ≤ b) ∧ b ≠ X.env.locals ∧ (∀ x c, X.env.cells.lookup x = some c → c ≠ b) ∧ ∀ p ∈ X.pn ++ pins, p.1 ≠ b) : Inv X pins σ H' s' := by
  obtain ⟨h', g', d', t', o'⟩ := s'
  have e : o' = s.os := ho
  subst e
  exact I.call (g' := g') (t' := t') (d' := d') u hok hg hch
end
abbrev XK := Value → Option Addr → Hp → Prop
abbrev St := List (Option V)
abbrev VK := V → Hp → Prop
abbrev TE := St → Hp → VK → Prop
abbrev TT := St → Hp → (Bool → Hp → Prop) → Prop
abbrev TA := St → Hp → (List V → Hp → Prop) → Prop
structure Ends where
  nx : St → Hp → Prop
  rt : VK
  bk : St → Hp → Prop := fun _ _ => False
  ct : St → Hp → Prop := fun _ _ => False
abbrev TS := Ends → St → Hp → Prop
def EP (X : Cx) (pins : List (Addr × Obj)) (σ : St) (Q : VK) (u : Value) (s' : Shared) : Prop := ∃ v H', Inv X pins σ H' s' ∧ RelV v u ∧ Q v H'
def TP (X : Cx) (pins : List (Addr × Obj)) (σ : St) (Q : Bool → Hp → Prop) (b : Bool) (s' : Shared) : Prop := ∃ H', Inv X pins σ H' s' ∧ Q b H'
def AP (X : Cx) (pins : List (Addr × Obj)) (σ : St) (Q : List V → Hp → Prop) (us : List Value) (s' : Shared) : Prop := ∃ vs H', Inv X pins σ H' s' ∧ Vals vs us ∧ Q vs H'
def SP (X : Cx) (pins : List (Addr × Obj)) (D : Ends) (f : Flow) (s' : Shared) : Prop :=
  match f with
  | .next => ∃ σ' H', Inv X pins σ' H' s' ∧ D.nx σ' H'
  | .brk => ∃ σ' H', Inv X pins σ' H' s' ∧ D.bk σ' H'
  | .cont => ∃ σ' H', Inv X pins σ' H' s' ∧ D.ct σ' H'
  | .ret u => ∃ v σ' H', Inv X pins σ' H' s' ∧ RelV v u ∧ D.rt v H'
def PE (X : Cx) (e : Expr) (t : TE) : Prop :=
  ∀ (pins : List (Addr × Obj)) (s : Shared) (σ : St) (H : Hp) (Q : VK), Inv X pins σ H s → t σ H Q → wpAny (model X.prog X.w) X.A (eval e X.env) (EP X pins σ Q) X.xe s
def PT (X : Cx) (e : Expr) (t : TT) : Prop :=
  ∀ (pins : List (Addr × Obj)) (s : Shared) (σ : St) (H : Hp) (Q : Bool → Hp → Prop), Inv X pins σ H s → t σ H Q → wpAny (model X.prog X.w) X.A (isTrue e X.env (eval e X.env)) (TP X pins σ Q) X.xe s
def PW (X : Cx) (e : Expr) (t : TT) : Prop :=
  ∀ (whole : Sem Value) (pins : List (Addr × Obj)) (s : Shared) (σ : St) (H : Hp) (Q : Bool → Hp → Prop), Inv X pins σ H s → t σ H Q → wpAny (model X.prog X.w) X.A (isTrue e X.env whole) (TP X pins σ Q) X.xe s
theorem PW.pt {X : Cx} {e : Expr} {t : TT} (h : PW X e t) : PT X e t := h _
def PA (X : Cx) (es : List Expr) (t : TA) : Prop :=
  ∀ (pos : Pos) (pins : List (Addr × Obj)) (s : Shared) (σ : St) (H : Hp) (Q : List V → Hp → Prop), Inv X pins σ H s → t σ H Q → wpAny (model X.prog X.w) X.A (spliced (backTo pos (starEach es X.env))) (AP X pins σ Q) X.xe s
def PS (X : Cx) (st : Stmt) (t : TS) : Prop :=
  ∀ (pins : List (Addr × Obj)) (s : Shared) (σ : St) (H : Hp) (D : Ends), Inv X pins σ H s → t D σ H → wpAny (model X.prog X.w) X.A (exec st X.env) (SP X pins D) X.xe s
def PSs (X : Cx) (st : List Stmt) (t : TS) : Prop :=
  ∀ (pins : List (Addr × Obj)) (s : Shared) (σ : St) (H : Hp) (D : Ends), Inv X pins σ H s → t D σ H → wpAny (model X.prog X.w) X.A (execs st X.env) (SP X pins D) X.xe s
theorem thn {α : Type} {t : Sem α} {Q Q' : α → Shared → Prop} {M : Model} {A : Around} {E : Value → Shared → Prop} {s : Shared} (h : wpAny M A t Q E s) (hQ : ∀ a s, Q a s → Q' a s) : wpAny M A t Q' E s := wpAny_mono h hQ fun _ _ x => x
end L2
namespace L2
open PySem PySem.Spec PyProof.Rows
section
variable {X : Cx}
def tVar (i : Nat) : TE := fun σ H Q => ∃ v, σ[i]? = some (some v) ∧ Q v H
def tC (v : V) : TE := fun _ H Q => Q v H
theorem pe_var {i : Nat} {x : Str} {pos : Pos} (hN : X.N[i]? = some x) (hv : Vis X.env.scope x) (hd : (x == ("__debug__" : Str)) = false := by decide) (hcd : (x == ("__classdict__" : Str)) = false := by decide) : PE X (.Name x pos) (tVar i) := by
  intro pins s σ H Q I h
  obtain ⟨v, e, h⟩ := h
  obtain ⟨m, hn, hl⟩ := I.loc
  obtain ⟨u, r, l⟩ := hl i x v hN e hv
  have fin : EP X pins σ Q u s := ⟨v, H, I, r, h⟩
  rcases l with ⟨hk, hm⟩ | ⟨hk, c, hc, hcell⟩
  · exact wpAny_Name (wpAny_loadName_local I.ok.kind hk hn hm fin) hd
  · rcases hk with hk | hk
    · exact wpAny_Name (wpAny_loadName_cell I.ok.kind hk hc hcell fin) hd
    · exact wpAny_Name (wpAny_loadName_free I.ok.kind hk hc hcell fin hcd) hd
theorem pe_int {i j pos} : PE X (.Constant (.int i) j pos) (tC (.int i)) := fun _ _ _ H _ I h => wpAny_Constant_int ⟨.int i, H, I.tok _, ⟨_, rfl⟩, h⟩
theorem pe_non {j pos} : PE X (.Constant .none j pos) (tC .non) := fun _ _ _ H _ I h => Constant_none ⟨.non, H, I, rfl, h⟩
def Gl (X : Cx) (x : Str) : Prop := X.env.kindOf x = some .globalImplicit
theorem ld_glob {E : Value → Shared → Prop} {pins : List (Addr × Obj)} {s : Shared} {σ : St} {H : Hp} {x : Str} {u : Value} {pos : Pos} {Q : Value → Shared → Prop} (I : Inv X pins σ H s) (hg : Gl X x) (hm : X.mg x = some u) (h : Q u s)
    (hd : (x == ("__debug__" : Str)) = false := by decide) : wpAny (model X.prog X.w) X.A (eval (.Name x pos) X.env) Q E s :=
  Calls.Name_function_global I.ok.kind hg (Calls.loadGlobal_global (by rw [I.ok.glob]; exact I.mod.glob.keeps I.bk) hm h) hd
theorem ld_blt {E : Value → Shared → Prop} {pins : List (Addr × Obj)} {s : Shared} {σ : St} {H : Hp} {x : Str} {u : Value} {pos : Pos} {Q : Value → Shared → Prop} (I : Inv X pins σ H s) (hg : Gl X x) (hm : X.mg x = none) (hv : bootBuiltins x = some u) (h : Q u s)
    (hn : x ≠ "__name__" := by decide) (hd : (x == ("__debug__" : Str)) = false := by decide) : wpAny (model X.prog X.w) X.A (eval (.Name x pos) X.env) Q E s := by
  obtain ⟨mb, h1, h2⟩ := I.mod.blt
  exact Calls.Name_function_global I.ok.kind hg (Calls.loadGlobal_builtin (by rw [I.ok.glob]; exact I.mod.glob.keeps I.bk) hm (by rw [I.ok.blt]; exact h1.keeps I.bk) ((h2 x hn).trans hv) h) hd
theorem pe_glob {x : Str} {v : V} {u : Value} {pos : Pos} (hg : Gl X x) (hm : X.mg x = some u) (r : RelV v u) (hd : (x == ("__debug__" : Str)) = false := by decide) : PE X (.Name x pos) (tC v) :=
  fun _ _ _ H _ I h => ld_glob I hg hm ⟨v, H, I, r, h⟩ hd
variable {a b : Expr} {ta tb : TE} {pos : Pos}
variable {tA tB' : TT} {rest : List Expr}
def tAnd (t u : TT) : TT := fun σ H Q => t σ H fun c H1 => if c = true then u σ H1 Q else Q false H1
def tOr (t u : TT) : TT := fun σ H Q => t σ H fun c H1 => if c = true then Q true H1 else u σ H1 Q
def tNot (t : TT) : TT := fun σ H Q => t σ H fun c H1 => Q (!c) H1
theorem pw_and1 (ha : PT X a tA) : PW X (.BoolOp .And [a] pos) tA := by
  intro wh pins s σ H Q I h
  refine isTrue_and (thn (ha pins s σ H Q I h) fun c s1 e => ?_)
  cases c with
  | true => exact isTrue_and_nil e
  | false => exact e
theorem pw_or1 (ha : PT X a tA) : PW X (.BoolOp .Or [a] pos) tA := by
  intro wh pins s σ H Q I h
  refine isTrue_or (thn (ha pins s σ H Q I h) fun c s1 e => ?_)
  cases c with
  | false => exact isTrue_or_nil e
  | true => exact e
theorem pw_and (ha : PT X a tA) (hb : PW X (.BoolOp .And (b :: rest) pos) tB') : PW X (.BoolOp .And (a :: b :: rest) pos) (tAnd tA tB') := by
  intro wh pins s σ H Q I h
  refine isTrue_and (thn (ha pins s σ H _ I h) fun c s1 ⟨H1, I1, q1⟩ => ?_)
  cases c with
  | true => exact hb wh pins s1 σ H1 Q I1 q1
  | false => exact ⟨H1, I1, q1⟩
theorem pw_or (ha : PT X a tA) (hb : PW X (.BoolOp .Or (b :: rest) pos) tB') : PW X (.BoolOp .Or (a :: b :: rest) pos) (tOr tA tB') := by
  intro wh pins s σ H Q I h
  refine isTrue_or (thn (ha pins s σ H _ I h) fun c s1 ⟨H1, I1, q1⟩ => ?_)
  cases c with
  | true => exact ⟨H1, I1, q1⟩
  | false => exact hb wh pins s1 σ H1 Q I1 q1
theorem pt_not (ha : PT X a tA) : PT X (.UnaryOp .Not a pos) (tNot tA) := by
  intro pins s σ H Q I h
  exact isTrue_not (ha pins s σ H (fun c H1 => Q (!c) H1) I h)
def tAndV (ta tb : TE) : TE := fun σ H Q => ta σ H fun x H1 => ∃ c, x = .bl c ∧ if c = true then tb σ H1 Q else Q (.bl false) H1
def tOrV (ta tb : TE) : TE := fun σ H Q => ta σ H fun x H1 => ∃ c, x = .bl c ∧ if c = true then Q (.bl true) H1 else tb σ H1 Q
def tNotV (ta : TE) : TE := fun σ H Q => ta σ H fun x H1 => ∃ c, x = .bl c ∧ Q (.bl (!c)) H1
theorem pe_one {op} {t : TE} (h : PE X a t) : PE X (.BoolOp op [a] pos) t := fun pins s σ H Q I hw => BoolOp_one (h pins s σ H Q I hw)
theorem pe_and (ha : PE X a ta) (hb : PE X (.BoolOp .And (b :: rest) pos) tb) : PE X (.BoolOp .And (a :: b :: rest) pos) (tAndV ta tb) := by
  intro pins s σ H Q I h
  refine BoolOp_and (thn (ha pins s σ H _ I h) fun v s1 ⟨x, H1, I1, r1, q1⟩ => ?_)
  obtain ⟨c, rfl, q1⟩ := q1
  cases r1
  refine wpAny_truthy_bool ?_
  cases c with
  | true => exact hb pins s1 σ H1 Q I1 q1
  | false => exact ⟨.bl false, H1, I1, rfl, q1⟩
theorem pe_or (ha : PE X a ta) (hb : PE X (.BoolOp .Or (b :: rest) pos) tb) : PE X (.BoolOp .Or (a :: b :: rest) pos) (tOrV ta tb) := by
  intro pins s σ H Q I h
  refine BoolOp_or (thn (ha pins s σ H _ I h) fun v s1 ⟨x, H1, I1, r1, q1⟩ => ?_)
  obtain ⟨c, rfl, q1⟩ := q1
  cases r1
  refine wpAny_truthy_bool ?_
  cases c with
  | false => exact hb pins s1 σ H1 Q I1 q1
  | true => exact ⟨.bl true, H1, I1, rfl, q1⟩
theorem pe_not (ha : PE X a ta) : PE X (.UnaryOp .Not a pos) (tNotV ta) := by
  intro pins s σ H Q I h
  refine UnaryOp_ (thn (ha pins s σ H _ I h) fun v s1 ⟨x, H1, I1, r1, q1⟩ => ?_)
  obtain ⟨c, rfl, q1⟩ := q1
  cases r1
  exact not_of (wpAny_truthy_bool ⟨.bl (!c), H1, I1, rfl, q1⟩)
def tIf (t : TT) (ta tb : TE) : TE := fun σ H Q => t σ H fun c H1 => if c = true then ta σ H1 Q else tb σ H1 Q
theorem pe_ifExp {c : Expr} (hc : PT X c tA) (ha : PE X a ta) (hb : PE X b tb) : PE X (.IfExp c a b pos) (tIf tA ta tb) := by
  intro pins s σ H Q I h
  refine wpAny_IfExp (thn (hc pins s σ H _ I h) fun d s1 ⟨H1, I1, q1⟩ => ?_)
  cases d with
  | true => exact ha pins s1 σ H1 Q I1 q1
  | false => exact hb pins s1 σ H1 Q I1 q1
end
end L2
namespace L2
open PySem PySem.Spec PyProof.Rows
def SqL (K : PySem.W.Frag) (H : Hp) (a : Addr) (xs : List V) : Prop :=
  Rd H a (.lst xs) ∨
    ∃ (o : Obj) (its : Array Value) (n : Nat), K.lookup a = some o ∧ o.cls = .type "list" ∧ o.dict = none ∧ o.data = .seq its n ∧ its.size ≤ sizeLine ∧ Vals xs its.toList
def SqT (K : PySem.W.Frag) (H : Hp) (a : Addr) (xs : List V) : Prop :=
  Rd H a (.tup xs) ∨
    ∃ (o : Obj) (its : Array Value) (n : Nat), K.lookup a = some o ∧ o.cls = .type "tuple" ∧ o.data = .seq its n ∧ its.size ≤ sizeLine ∧ Vals xs its.toList
def absV : Value → Option V
  | .none => some .non
  | .bool b => some (.bl b)
  | .int i _ => some (.int i)
  | .str x _ => some (.str x)
  | .bytes b _ => some (.byt b)
  | .float b _ => some (.flt b)
  | .ref a => some (.ref a)
  | .type n => some (.ty n)
  | _ => none
theorem RelV.abs {x : V} {u : Value} (r : RelV x u) : absV u = some x := by
  cases x with
  | non => cases r; rfl
  | bl _ => cases r; rfl
  | int _ => obtain ⟨t, rfl⟩ := r; rfl
  | str _ => obtain ⟨t, rfl⟩ := r; rfl
  | byt _ => obtain ⟨t, rfl⟩ := r; rfl
  | flt _ => obtain ⟨t, rfl⟩ := r; rfl
  | ref _ => cases r; rfl
  | ty _ => cases r; rfl
theorem RelV.inj {x y : V} {u : Value} (r : RelV x u) (q : RelV y u) : x = y := Option.some.inj (r.abs.symm.trans q.abs)
theorem Vals.inj : ∀ {xs ys : List V} {us : List Value}, Vals xs us → Vals ys us → xs = ys
  | _, _, _, .nil, .nil => rfl
  | _, _, _, .cons r t, .cons r' t' => by rw [r.inj r', Vals.inj t t']
section
variable {X : Cx} {pins : List (Addr × Obj)} {σ : St} {H : Hp} {s : Shared} {a : Addr} {xs ys : List V}
theorem SqL.of {K : PySem.W.Frag} (h : H a = some (.lst xs)) : SqL K H a xs := .inl (.inl h)
theorem SqT.of {K : PySem.W.Frag} (h : H a = some (.tup xs)) : SqT K H a xs := .inl (.inl h)
theorem Inv.list (I : Inv X pins σ H s) (h : SqL X.K H a xs) : ∃ its : List Value, Vals xs its ∧ PlainL s.heap a its.toArray ∧ xs.length ≤ sizeLine := by
  rcases h with h | ⟨o, its, n, hk, hc, hd, hs, hz, r⟩
  · obtain ⟨z, its, n, r, e⟩ := h.ok I.hok
    exact ⟨its, r, ⟨_, n, e, rfl, rfl, rfl⟩, z⟩
  · refine ⟨its.toList, r, ⟨o, n, I.kIn a o hk, hc, hd, by simpa using hs⟩, ?_⟩
    have e := r.length
    simp only [Array.length_toList] at e
    omega
theorem Inv.tuple (I : Inv X pins σ H s) (h : SqT X.K H a xs) : ∃ its : List Value, Vals xs its ∧ IsTup s.heap a its.toArray ∧ xs.length ≤ sizeLine := by
  rcases h with h | ⟨o, its, n, hk, hc, hs, hz, r⟩
  · obtain ⟨z, its, r, p⟩ := h.ok I.hok
    exact ⟨its, r, p, z⟩
  · refine ⟨its.toList, r, ⟨o, I.kIn a o hk, hc, n, by simpa using hs⟩, ?_⟩
    have e := r.length
    simp only [Array.length_toList] at e
    omega
theorem Inv.list_inj (I : Inv X pins σ H s) (h : SqL X.K H a xs) (h' : SqL X.K H a ys) : xs = ys := by
  obtain ⟨its, r, ⟨o, n, e, _, _, d⟩, _⟩ := I.list h
  obtain ⟨its', r', ⟨o', n', e', _, _, d'⟩, _⟩ := I.list h'
  rw [e] at e'; cases e'
  rw [d] at d'
  injection d' with d1 _
  have : its = its' := by simpa using congrArg Array.toList d1
  subst this
  exact r.inj r'
end
abbrev Cx.wish (X : Cx) (E : Value → Shared → Prop) : Cx := { X with xe := E }
abbrev Cx.nox (X : Cx) : Cx := X.wish fun _ _ => False
theorem Cx.Ok.wish {X : Cx} (ok : X.Ok) (E : Value → Shared → Prop) : (X.wish E).Ok :=
  ⟨ok.mod, ok.kind, ok.glob, ok.blt, ok.above, ok.inj, ok.has, ok.cab, ok.hd, ok.frames, ok.stk, ok.exf, ok.bs, ok.bsz, ok.noex, ok.exfs, ok.funs, ok.frf⟩
theorem Cx.Ok.unwish {X : Cx} {E : Value → Shared → Prop} (ok : (X.wish E).Ok) : X.Ok :=
  ⟨ok.mod, ok.kind, ok.glob, ok.blt, ok.above, ok.inj, ok.has, ok.cab, ok.hd, ok.frames, ok.stk, ok.exf, ok.bs, ok.bsz, ok.noex, ok.exfs, ok.funs, ok.frf⟩
section
variable {X : Cx} {pins : List (Addr × Obj)} {σ : St} {H : Hp} {s : Shared} {E : Value → Shared → Prop}
theorem Inv.wish (I : Inv X pins σ H s) (E : Value → Shared → Prop) : Inv (X.wish E) pins σ H s := ⟨I.ok.wish E, I.os, I.bare, I.base, I.loc, I.cell, I.free, I.freeC, I.pin, I.hok, I.len⟩
theorem Inv.unwish (I : Inv (X.wish E) pins σ H s) : Inv X pins σ H s := ⟨I.ok.unwish, I.os, I.bare, I.base, I.loc, I.cell, I.free, I.freeC, I.pin, I.hok, I.len⟩
theorem SP.unwish {D : Ends} {f : Flow} {s' : Shared} (h : SP (X.wish E) pins D f s') : SP X pins D f s' := by
  cases f with
  | next => obtain ⟨σ', H', I, q⟩ := h; exact ⟨σ', H', I.unwish, q⟩
  | brk => obtain ⟨σ', H', I, q⟩ := h; exact ⟨σ', H', I.unwish, q⟩
  | cont => obtain ⟨σ', H', I, q⟩ := h; exact ⟨σ', H', I.unwish, q⟩
  | ret u => obtain ⟨v, σ', H', I, r, q⟩ := h; exact ⟨v, σ', H', I.unwish, r, q⟩
theorem PSs.nox {st : List Stmt} {t : TS} (h : PSs X.nox st t) : PSs X st t := fun pins s σ H D I hw =>
  wpAny_mono (h pins s σ H D (I.wish _) hw) (fun _ _ q => q.unwish) fun _ _ z => False.elim z
end
section
variable {X : Cx} {st : Stmt} {rest : List Stmt} {t u : TS} {e : Expr} {te : TE} {pos : Pos}
def tNext : TS := fun D σ H => D.nx σ H
def tSeq (t u : TS) : TS := fun D σ H => t { D with nx := u D } σ H
theorem pss_nil : PSs X [] tNext := fun _ _ σ H _ I h => wpAny_execs_nil ⟨σ, H, I, h⟩
theorem pss_cons (h1 : PS X st t) (h2 : PSs X rest u) : PSs X (st :: rest) (tSeq t u) := by
  intro pins s σ H D I h
  refine wpAny_execs_cons (thn (h1 pins s σ H { D with nx := u D } I h) fun f s1 q => ?_)
  cases f with
  | next =>
    obtain ⟨σ', H', I', q⟩ := q
    exact h2 pins s1 σ' H' D I' q
  | ret v => exact q
  | brk => exact q
  | cont => exact q
theorem pss_one (h1 : PS X st t) : PSs X [st] t := by
  intro pins s σ H D I h
  refine wpAny_execs_cons (thn (h1 pins s σ H D I h) fun f s1 q => ?_)
  cases f with
  | next => exact wpAny_execs_nil q
  | ret v => exact q
  | brk => exact q
  | cont => exact q
theorem Inv.quiet {pins : List (Addr × Obj)} {σ : St} {H : Hp} {s : Shared} (I : Inv X pins σ H s) : interactive X.env = false := by simp [interactive, I.ok.kind]
def tDrop (te : TE) : TS := fun D σ H => te σ H fun _ H1 => D.nx σ H1
theorem ps_expr (he : PE X e te) (hs : swapsWith e none pos.line X.env = pure false := by rfl) : PS X (.Expr e pos) (tDrop te) := by
  intro pins s σ H D I h
  exact wpAny_Expr_any (thn (he pins s σ H _ I h) fun v s1 ⟨x, H1, I1, r1, q1⟩ => ⟨σ, H1, I1, q1⟩) I.quiet hs
def tRet (te : TE) : TS := fun D σ H => te σ H D.rt
theorem ps_ret (he : PE X e te) : PS X (.Return (some e) pos) (tRet te) := by
  intro pins s σ H D I h
  exact wpAny_Return_some (thn (he pins s σ H _ I h) fun v s1 ⟨x, H1, I1, r1, q1⟩ => ⟨x, σ, H1, I1, r1, q1⟩)
def tIfS (c : TT) (t u : TS) : TS := fun D σ H => c σ H fun b H1 => if b = true then t D σ H1 else u D σ H1
theorem ps_if {c : Expr} {a b : List Stmt} {tc : TT} (hc : PT X c tc) (ha : PSs X a t) (hb : PSs X b u) : PS X (.If c a b pos) (tIfS tc t u) := by
  intro pins s σ H D I h
  refine wpAny_If (thn (hc pins s σ H _ I h) fun d s1 ⟨H1, I1, q1⟩ => ?_)
  cases d with
  | true => exact ha pins s1 σ H1 D I1 q1
  | false => exact hb pins s1 σ H1 D I1 q1
end
abbrev TG := V → St → Hp → (St → Hp → Prop) → Prop
abbrev TGs := List V → St → Hp → (St → Hp → Prop) → Prop
def PG (X : Cx) (target : Expr) (t : TG) : Prop :=
  ∀ (pins : List (Addr × Obj)) (s : Shared) (σ : St) (H : Hp) (v : V) (u : Value) (Q : St → Hp → Prop), Inv X pins σ H s → RelV v u → t v σ H Q →
    wpAny (model X.prog X.w) X.A (assign target X.env u) (fun _ s' => ∃ σ' H', Inv X pins σ' H' s' ∧ Q σ' H') X.xe s
def PGs (X : Cx) (ts : List Expr) (t : TGs) : Prop :=
  ∀ (pins : List (Addr × Obj)) (s : Shared) (σ : St) (H : Hp) (vs : List V) (us : List Value) (Q : St → Hp → Prop), Inv X pins σ H s → Vals vs us → t vs σ H Q →
    wpAny (model X.prog X.w) X.A (assignInOrder ((assignEach ts X.env).map (·.2)) us) (fun _ s' => ∃ σ' H', Inv X pins σ' H' s' ∧ Q σ' H') X.xe s
abbrev TSet := V → V → V → Hp → (Hp → Prop) → Prop
def PSet (X : Cx) (t : TSet) : Prop :=
  ∀ (pins : List (Addr × Obj)) (s : Shared) (σ : St) (H : Hp) (o i v : V) (ov iv u : Value) (Q : Hp → Prop), Inv X pins σ H s → RelV o ov → RelV i iv → RelV v u → t o i v H Q →
    wpAny (model X.prog X.w) X.A (setItem ov iv u) (fun _ s' => ∃ H', Inv X pins σ H' s' ∧ Q H') X.xe s
section
variable {X : Cx} {pos : Pos}
def gName (i : Nat) : TG := fun v σ H Q => Q (σ.set i (some v)) H
theorem pg_name {i : Nat} {x : Str} (hN : X.N.Nodup) (hi : X.N[i]? = some x) (hx : Loc X.env.scope x) (hf : X.fn x = true ∨ X.env.scope.names.lookup x = some .local := by first | exact .inl rfl | exact .inr rfl | assumption) : PG X (.Name x pos) (gName i) := by
  intro pins s σ H v u Q I r h
  exact wpAny_assign_Name (store_ok I hN hi hx r (fun s' I' => ⟨_, H, I', h⟩) hf)
def gNil : TGs := fun vs σ H Q => vs = [] ∧ Q σ H
def gCons (t : TG) (u : TGs) : TGs := fun vs σ H Q => ∃ v r, vs = v :: r ∧ t v σ H fun σ' H' => u r σ' H' Q
theorem pgs_nil : PGs X [] gNil := by
  intro pins s σ H vs us Q I r h
  obtain ⟨e, h⟩ := h
  subst e
  cases r
  exact assignInOrder_nil ⟨σ, H, I, h⟩
theorem pgs_cons {e : Expr} {es : List Expr} {t : TG} {u : TGs} (h1 : PG X e t) (h2 : PGs X es u)
    (hs : (assignEach (e :: es) X.env).map (·.2) = assign e X.env :: (assignEach es X.env).map (·.2) := by rfl) : PGs X (e :: es) (gCons t u) := by
  intro pins s σ H vs us Q I r h
  obtain ⟨v, vr, e1, h⟩ := h
  subst e1
  cases r with
  | cons r rr =>
    rw [hs]
    refine assignInOrder_cons (thn (h1 pins s σ H _ _ _ I r h) fun _ s1 ⟨σ1, H1, I1, q1⟩ => ?_)
    exact h2 pins s1 σ1 H1 _ _ Q I1 rr q1
def gTup (K : PySem.W.Frag) (n : Nat) (t : TGs) : TG := fun v σ H Q => ∃ a xs, v = .ref a ∧ SqT K H a xs ∧ xs.length = n ∧ t xs σ H Q
theorem pg_tup {es : List Expr} {k : Nat} {t : TGs} {n : Nat} (hc : X.calm = true) (h : PGs X es t)
    (hn : (assignEach es X.env).length = n := by rfl) (hst : (assignEach es X.env).findIdx? (·.1) = none := by rfl) : PG X (.Tuple es k pos) (gTup X.K n t) := by
  intro pins s σ H v u Q I r hw
  obtain ⟨a, xs, e1, hq, hl, hw⟩ := hw
  subst e1
  cases r
  obtain ⟨its, rv, ht, hz⟩ := I.tuple hq
  refine assign_Tuple_tuple (I.ok.hd hc) ht (by simp [hn, ← hl, rv.length]) hst fun h' hx => ?_
  have I1 : Inv X pins σ H { s with heap := h' } := I.kept (t' := s.toks) fun b o e => hx b o (Nat.ne_of_lt (Heap.lt_size e)) e
  exact h pins _ σ H xs _ Q I1 (by simpa using rv) hw
def gSub (to ti : TE) (t : TSet) : TG := fun v σ H Q => to σ H fun o H1 => ti σ H1 fun i H2 => t o i v H2 fun H3 => Q σ H3
theorem pg_sub {o i : Expr} {to ti : TE} {t : TSet} (ho : PE X o to) (hi : PE X i ti) (hs : PSet X t)
    (ha : ∀ v, assign (.Subscript o i pos) X.env v = (do
      let ov ← holding [v] (eval o X.env)
      let iv ← holding [v, ov] (eval i X.env)
      standAt pos
      holding [v, ov, iv] (setItem ov iv v)
      release [v, ov, iv] []) := by intro _; rfl) : PG X (.Subscript o i pos) (gSub to ti t) := by
  intro pins s σ H v u Q I r h
  rw [ha]
  refine wpAny_bind (wpAny_holding (thn (ho pins s σ H _ I h) fun ov s1 ⟨x, H1, I1, r1, q1⟩ => ?_))
  refine wpAny_bind (wpAny_holding (thn (hi pins s1 σ H1 _ I1 q1) fun iv s2 ⟨y, H2, I2, r2, q2⟩ => ?_))
  refine wpAny_bind (wpAny_standAt (wpAny_bind (wpAny_holding (thn (hs pins s2 σ H2 x y v ov iv u _ I2 r1 r2 r q2) fun _ s3 ⟨H3, I3, q3⟩ => ?_))))
  exact wpAny_release ⟨σ, H3, I3, q3⟩
def tAsg (te : TE) (g : TG) : TS := fun D σ H => te σ H fun x H1 => g x σ H1 D.nx
theorem ps_asg {tg e : Expr} {te : TE} {g : TG} (he : PE X e te) (hg : PG X tg g) (hs : swapsWithSole [tg] e pos.line X.env = pure false := by rfl) (hw : swappedStores [tg] e X.env = pure none := by rfl)
    (h1 : (assignEach [tg] X.env).map (·.2) = [assign tg X.env] := by rfl) : PS X (.Assign [tg] e pos) (tAsg te g) := by
  intro pins s σ H D I h
  refine wpAny_Assign_stores (thn (he pins s σ H _ I h) fun v s1 ⟨x, H1, I1, r1, q1⟩ => ?_) hs hw
  rw [h1]
  exact thn (hg pins s1 σ H1 x v _ I1 r1 q1) fun _ s2 q => q
theorem ps_set {i : Nat} {x : Str} {e : Expr} {te : TE} {pos' : Pos} (hN : X.N.Nodup) (hi : X.N[i]? = some x) (hx : Loc X.env.scope x) (he : PE X e te) (hs : swapsWith e (some (.Name x pos')) pos.line X.env = pure false := by rfl) (hf : X.fn x = true ∨ X.env.scope.names.lookup x = some .local := by first | exact .inl rfl | exact .inr rfl | assumption) :
    PS X (.Assign [.Name x pos'] e pos) (tAsg te (gName i)) := by
  intro pins s σ H D I h
  refine wpAny_Assign_Name (thn (he pins s σ H _ I h) fun v s1 ⟨y, H1, I1, r1, q1⟩ => ?_) hs
  exact store_ok I1 hN hi hx r1 (fun s2 I2 => ⟨_, H1, I2, q1⟩) hf
end
section
variable {X : Cx} {pos : Pos}
def tWhile (c : TT) (tb : TS) : TS := fun D σ H => ∃ W : Nat → St → Hp → Prop, (∃ m, W m σ H) ∧ ∀ m σ H, W m σ H →
  c σ H fun b H1 => if b = true then ∃ N : St → Hp → Prop, (∀ σ' H', N σ' H' → ∃ m', m' < m ∧ W m' σ' H') ∧ tb { D with nx := N, ct := N, bk := D.nx } σ H1 else D.nx σ H1
theorem ps_while {c : Expr} {body : List Stmt} {tc : TT} {tb : TS} (hp : PassesOwn (model X.prog X.w) X.A X.env X.xe) (hc : PT X c tc) (hb : PSs X body tb) : PS X (.While c body [] pos) (tWhile tc tb) := by
  intro pins s σ H D I h
  obtain ⟨W, ⟨m0, w0⟩, turn⟩ := h
  refine wpAny_While (codeAny_whileLoop (fun n s' => ∃ σ' H', Inv X pins σ' H' s' ∧ W n σ' H') ?_ m0 ⟨σ, H, I, w0⟩)
  rintro n s1 ⟨σ1, H1, I1, w1⟩
  refine wpAny_passesOwn hp (thn (hc pins s1 σ1 H1 _ I1 (turn n σ1 H1 w1)) fun b s2 ⟨H2, I2, q2⟩ => ?_)
  cases b with
  | true =>
    obtain ⟨N, hN, q2⟩ := q2
    rw [if_pos rfl]
    refine wpAny_passesOwn hp (thn (hb pins s2 σ1 H2 _ I2 q2) fun f s3 q3 => ?_)
    cases f with
    | next =>
      obtain ⟨σ3, H3, I3, n3⟩ := q3
      obtain ⟨m', hm, w3⟩ := hN σ3 H3 n3
      exact ⟨m', hm, σ3, H3, I3, w3⟩
    | cont =>
      obtain ⟨σ3, H3, I3, n3⟩ := q3
      obtain ⟨m', hm, w3⟩ := hN σ3 H3 n3
      exact ⟨m', hm, σ3, H3, I3, w3⟩
    | brk => exact q3
    | ret v => exact q3
  | false =>
    rw [if_neg Bool.false_ne_true]
    exact wpAny_execs_nil ⟨σ1, H2, I2, q2⟩
end
structure It where
  go : Nat → Hp → Prop
  yld : Nat → Hp → V → Hp → Prop
  stop : Nat → Hp → Prop
def FpOk (X : Cx) (pins : List (Addr × Obj)) (H : Hp) (b : Addr) : Prop :=
  H b = none ∧ b ≠ X.env.locals ∧ b ∉ X.fs ∧ (b ∈ X.ex ∨ X.s_0.heap.objs.size ≤ b) ∧ (∀ x c, X.env.cells.lookup x = some c → c ≠ b) ∧ ∀ p ∈ X.pn ++ pins, p.1 ≠ b
theorem Inv.fpOk {X : Cx} {pins : List (Addr × Obj)} {σ : St} {H H' : Hp} {s : Shared} {b : Addr} (I : Inv X pins σ H s) (hb : s.heap.objs.size ≤ b) (hn : H' b = none) : FpOk X pins H' b := by
  refine ⟨hn, Nat.ne_of_gt (Nat.lt_of_lt_of_le I.lt hb), I.nofs hb, .inr (Nat.le_trans I.sz hb), fun x c e z => ?_, fun p hp z => ?_⟩
  · obtain ⟨v, q⟩ := I.cell x c e
    exact absurd (Nat.lt_of_lt_of_le q.lt (by rw [z]; exact hb)) (Nat.lt_irrefl _)
  · exact absurd (Nat.lt_of_lt_of_le (Heap.lt_size (I.pin p hp).1) (by rw [z]; exact hb)) (Nat.lt_irrefl _)
structure Turn (P : Program) (w : World) (K : PySem.W.Frag) (tg : Expr) (J : It) (fp : List Addr) (it : Addr) (tn : Nat → Heap → Prop) : Prop where
  mem : it ∈ fp
  obj : ∀ i h, tn i h → ∀ b ∈ fp, ∃ o, h.get? b = some o ∧ ∀ v, o.data ≠ .cell v
  keep : ∀ i h h', tn i h → (∀ b ∈ fp, ∀ o, h.get? b = some o → h'.get? b = some o) → tn i h'
  item : ∀ (X : Cx), X.prog = P → X.w = w → X.K = K → X.calm = true → ∀ (i : Nat) (pins : List (Addr × Obj)) (s : Shared) (σ : St) (H : Hp) (E : Value → Shared → Prop), Inv X pins σ H s → (∀ b ∈ fp, FpOk X pins H b) → tn i s.heap → J.go i H →
    wpAny (model P w) X.A (pyNext (.ref it)) (fun r s1 => ∃ u, r = some u ∧
      wpAny (model P w) X.A (letOwnedTupleGo tg (.ref it) u) (fun _ s2 => ∃ x H', Inv X pins σ H' s2 ∧ RelV x u ∧ J.yld i H x H' ∧ tn (i + 1) s2.heap ∧ ∀ b ∈ fp, H' b = none) E s1) E s
  done : ∀ (X : Cx), X.prog = P → X.w = w → X.K = K → X.calm = true → ∀ (i : Nat) (pins : List (Addr × Obj)) (s : Shared) (σ : St) (H : Hp) (E : Value → Shared → Prop), Inv X pins σ H s → (∀ b ∈ fp, FpOk X pins H b) → tn i s.heap → J.stop i H →
    wpAny (model P w) X.A (pyNext (.ref it)) (fun r s1 => r = none ∧ Inv X pins σ H s1) E s
  self : ∀ (A : Around) (i : Nat) (s : Shared) (Q : Value → Shared → Prop) (E : Value → Shared → Prop), tn i s.heap → Q (.ref it) s → wpAny (model P w) A (pyIter (.ref it)) Q E s
abbrev TI := St → Hp → (It → Hp → Prop) → Prop
def PIE (X : Cx) (pins : List (Addr × Obj)) (σ : St) (tg : Expr) (R : It → Hp → Prop) (itv : Value) (s2 : Shared) : Prop :=
  ∃ (it : Addr) (fp : List Addr) (tn : Nat → Heap → Prop) (J : It) (H' : Hp), itv = .ref it ∧ Inv X pins σ H' s2 ∧ Turn X.prog X.w X.K tg J fp it tn ∧ tn 0 s2.heap ∧ (∀ b ∈ fp, FpOk X pins H' b) ∧ R J H'
def PI (X : Cx) (tg iter : Expr) (wi : TI) : Prop :=
  ∀ (pins : List (Addr × Obj)) (s : Shared) (σ : St) (H : Hp) (R : It → Hp → Prop), Inv X pins σ H s → wi σ H R →
    wpAny (model X.prog X.w) X.A (eval iter X.env) (fun v s1 => wpAny (model X.prog X.w) X.A (pyIter v) (PIE X pins σ tg R) X.xe s1) X.xe s
theorem go_of {M : Model} {A : Around} {E : Value → Shared → Prop} {s : Shared} {tg : Expr} {it : Addr} {u : Value} {o : Obj} {n : String} {vs : Array Value} {Q : Unit → Shared → Prop} (ho : s.heap.get? it = some o) (hc : o.cls = .type n) (hd : o.data = .fields vs)
    (hn : ["enumerate", "zip", "dict_itemiterator", "dict_reverseitemiterator", "odict_iterator", "itertools.zip_longest", "itertools.pairwise"].contains n = false) (hQ : Q () s) : wpAny M A (letOwnedTupleGo tg (.ref it) u) Q E s := by
  unfold letOwnedTupleGo
  cases tg <;> first
    | exact wpAny_pure hQ
    | (cases u <;> first
        | exact wpAny_pure hQ
        | (refine wpAny_bind (wpAny_load ho ?_)
           rw [hc, hd]
           show wpAny M A (if (["enumerate", "zip", "dict_itemiterator", "dict_reverseitemiterator", "odict_iterator", "itertools.zip_longest", "itertools.pairwise"].contains n && vs[0]? == some (rawInt _)) = true then _ else _) Q E s
           rw [if_neg (by intro h; rw [hn, Bool.false_and] at h; cases h)]
           exact wpAny_pure hQ))
def Itl (K : PySem.W.Frag) (a : Addr) : It :=
  ⟨fun i H => ∃ xs x, SqL K H a xs ∧ xs[i]? = some x, fun i H x H' => H' = H ∧ ∀ xs, SqL K H a xs → xs[i]? = some x, fun i H => ∃ xs, SqL K H a xs ∧ xs.length ≤ i⟩
def Itr (lo : Int) (n : Nat) : It := ⟨fun i _ => i < n, fun i H x H' => H' = H ∧ x = .int (lo + i), fun i _ => n ≤ i⟩
theorem turn_list {P : Program} {w : World} {K : PySem.W.Frag} {tg : Expr} (a it : Addr) : Turn P w K tg (Itl K a) [it] it (fun i h => h.IsListIter it a i) where
  mem := by simp
  obj := fun i h st b hb => by
    have e : b = it := by simpa using hb
    subst e
    obtain ⟨o, e, c, d⟩ := st
    exact ⟨o, e, fun v z => by rw [d] at z; cases z⟩
  keep := fun i h h' st k => st.at fun o e => k it (by simp) o e
  item := by
    intro X hP hw hK hc i pins s σ H E I hf st hg
    subst hP hw hK
    obtain ⟨xs, x, hq, hx⟩ := hg
    obtain ⟨its, rv, p, hz⟩ := I.list hq
    obtain ⟨u, hu, ru⟩ := rv.get hx
    obtain ⟨f0, f1, f2, f3, f4, f5⟩ := hf it (by simp)
    refine wpAny_pyNext_list_item st p.isList (x := u) (by simpa using hu) fun h' st' sb => ?_
    have I1 : Inv X pins σ H { s with heap := h' } := I.turned (t' := s.toks) (fun b o hb e => (sb.2 b hb).trans e) f0 f1 f3 f4 f5
    obtain ⟨o, e, c, d⟩ := id st'
    exact ⟨u, rfl, go_of (s := { s with heap := h' }) e c d (by decide) ⟨x, H, I1, ru, ⟨rfl, fun ys hy => by rw [I.list_inj hy hq]; exact hx⟩, st', fun b hb => (hf b hb).1⟩⟩
  done := by
    intro X hP hw hK hc i pins s σ H E I hf st hg
    subst hP hw hK
    obtain ⟨xs, hq, hx⟩ := hg
    obtain ⟨its, rv, p, hz⟩ := I.list hq
    obtain ⟨f0, f1, f2, f3, f4, f5⟩ := hf it (by simp)
    have hl := rv.length
    exact wpAny_pyNext_list_end (I.ok.hd hc) st p.isList (by simp; omega) fun h' eb => ⟨rfl, I.turned (t' := s.toks) (fun b o hb e => eb b o hb e) f0 f1 f3 f4 f5⟩
  self := fun _ _ _ _ _ st h => wpAny_pyIter_listiter st h
theorem turn_range {P : Program} {w : World} {K : PySem.W.Frag} {tg : Expr} (it : Addr) (lo : Int) (n : Nat) : Turn P w K tg (Itr lo n) [it] it (fun i h => IsRangeIter h it (lo + (i : Nat) * 1) ((n : Int) - (i : Nat)) 1) where
  mem := by simp
  obj := fun i h st b hb => by
    have e : b = it := by simpa using hb
    subst e
    exact ⟨_, st, fun v z => by
      have z' : Data.fields _ = Data.cell v := z
      cases z'⟩
  keep := fun i h h' st k => k it (by simp) _ st
  item := by
    intro X hP hw hK hc i pins s σ H E I hf st hg
    subst hP hw hK
    obtain ⟨f0, f1, f2, f3, f4, f5⟩ := hf it (by simp)
    have W := Walks.range (prog := X.prog) (w := X.w) (I.ok.hd hc) it lo 1 n
    refine W.item i s _ _ hg st fun v h' tk hv st' kk => ?_
    obtain ⟨t, rfl⟩ := hv
    have I1 : Inv X pins σ H { s with heap := h', toks := tk } := I.turned (fun b o hb e => kk b o (by simpa using hb) e) f0 f1 f3 f4 f5
    refine ⟨_, rfl, go_of (s := { s with heap := h', toks := tk }) (n := "range_iterator") st' rfl rfl (by decide) ⟨.int (lo + i), H, I1, ⟨t, ?_⟩, ⟨rfl, rfl⟩, st', fun b hb => (hf b hb).1⟩⟩
    rw [Int.mul_one]
  done := by
    intro X hP hw hK hc i pins s σ H E I hf st hg
    subst hP hw hK
    obtain ⟨f0, f1, f2, f3, f4, f5⟩ := hf it (by simp)
    exact wpAny_pyNext_range_end (I.ok.hd hc) st (by have : n ≤ i := hg; omega) fun h' eb => ⟨rfl, I.turned (t' := s.toks) (fun b o hb e => eb b o hb e) f0 f1 f3 f4 f5⟩
  self := fun _ _ _ _ _ st h => wpAny_pyIter_rangeiter st h
end L2
namespace L2
open PySem PySem.Spec PyProof.Rows
section
variable {X : Cx} {tg : Expr}
def iList (K : PySem.W.Frag) (tl : TE) : TI := fun σ H R => tl σ H fun x H1 => ∃ a, x = .ref a ∧ (∃ xs, SqL K H1 a xs) ∧ R (Itl K a) H1
theorem pi_list {l : Expr} {tl : TE} (hl : PE X l tl) : PI X tg l (iList X.K tl) := by
  intro pins s σ H R I h
  refine thn (hl pins s σ H _ I h) fun v s1 ⟨x, H1, I1, r1, q1⟩ => ?_
  obtain ⟨a, e, ⟨xs, hq⟩, q⟩ := q1
  subst e
  cases r1
  obtain ⟨its, rv, p, hz⟩ := I1.list hq
  refine wpAny_pyIter_list p.isList ?_
  refine ⟨s1.heap.objs.size, [s1.heap.objs.size], _, _, H1, rfl, I1.kept (t' := s1.toks) fun b o e => Heap.get?_push_of_some _ e, turn_list a _, ⟨_, Heap.get?_push_size _ rfl, rfl, rfl⟩, fun b hb => ?_, q⟩
  have e : b = s1.heap.objs.size := by simpa using hb
  subst e
  exact I1.fpOk (Nat.le_refl _) (I1.hok.fresh (Nat.le_refl _))
theorem range_it {pins : List (Addr × Obj)} {σ : St} {H : Hp} {s : Shared} {R : It → Hp → Prop} {E : Value → Shared → Prop} {lo hi : Int} {t u v : Tok} {tk : Nat} (I : Inv X pins σ H s) (h1 : -(2 ^ 62) ≤ lo) (h2 : lo < 2 ^ 62) (h3 : -(2 ^ 62) ≤ hi) (h4 : hi < 2 ^ 62)
    (q : R (Itr lo (hi - lo).toNat) H) : wpAny (model X.prog X.w) X.A (pyIter (.ref s.heap.objs.size)) (PIE X pins σ tg R) E { s with heap := s.heap.push { cls := .type "range", data := .fields #[.int lo t, .int hi u, .int 1 v] }, toks := tk } := by
  refine wpAny_pyIter_range (IsRange.new ..) (small_one h1 h2 h3 h4) ?_
  have I1 : Inv X pins σ H { s with heap := s.heap.push { cls := .type "range", data := .fields #[.int lo t, .int hi u, .int 1 v] }, toks := tk } := I.kept fun b o e => Heap.get?_push_of_some _ e
  refine ⟨(s.heap.push { cls := .type "range", data := .fields #[.int lo t, .int hi u, .int 1 v] }).objs.size, [(s.heap.push { cls := .type "range", data := .fields #[.int lo t, .int hi u, .int 1 v] }).objs.size], _, _, H, rfl,
    I1.kept (t' := tk) fun b o e => Heap.get?_push_of_some _ e, turn_range _ lo (hi - lo).toNat, ?_, fun b hb => ?_, q⟩
  · have e1 : lo + ((0 : Nat) : Int) * 1 = lo := by simp
    have e2 : (((hi - lo).toNat : Nat) : Int) - ((0 : Nat) : Int) = Builtin.Range.rangeSize lo hi 1 := by rw [rangeSize_one]; split <;> omega
    show IsRangeIter _ _ (lo + ((0 : Nat) : Int) * 1) ((((hi - lo).toNat : Nat) : Int) - ((0 : Nat) : Int)) 1
    rw [e1, e2]
    exact Heap.get?_push_size _ rfl
  · have e : b = (s.heap.push { cls := .type "range", data := .fields #[.int lo t, .int hi u, .int 1 v] }).objs.size := by simpa using hb
    subst e
    exact I1.fpOk (Nat.le_refl _) (I1.hok.fresh (Nat.le_refl _))
def iRng1 (ta : TA) : TI := fun σ H R => ta σ H fun vs H1 => ∃ j : Int, vs = [.int j] ∧ -(2 ^ 62) ≤ j ∧ j < 2 ^ 62 ∧ R (Itr 0 j.toNat) H1
def iRng2 (ta : TA) : TI := fun σ H R => ta σ H fun vs H1 => ∃ i j : Int, vs = [.int i, .int j] ∧ (-(2 ^ 62) ≤ i ∧ i < 2 ^ 62 ∧ -(2 ^ 62) ≤ j ∧ j < 2 ^ 62) ∧ R (Itr i (j - i).toNat) H1
theorem pi_range1 {a : Expr} {ta : TA} {p pos : Pos} (hg : Gl X "range") (hm : X.mg "range" = none) (ha : PA X [a] ta) (hs : starEach [a] X.env = [(false, eval a X.env)] := by rfl) : PI X tg (.Call (.Name "range" p) [a] [] pos) (iRng1 ta) := by
  intro pins s σ H R I h
  refine Call_ (ld_blt I hg hm boot_range (PyProof.Rows.callWith_type1 (thn (ha pos pins s σ H _ I h) fun us s1 ⟨vs, H1, I1, r1, q1⟩ => ?_) hs rfl))
  obtain ⟨j, e, q1, q2, q⟩ := q1
  subst e
  cases r1 with
  | cons r rr =>
    cases rr
    obtain ⟨t, rfl⟩ := r
    exact call_range_1 (range_it I1 (by omega) (by omega) q1 q2 (by simpa using q))
theorem pi_range2 {a b : Expr} {ta : TA} {p pos : Pos} (hg : Gl X "range") (hm : X.mg "range" = none) (ha : PA X [a, b] ta) (hs : starEach [a, b] X.env = [(false, eval a X.env), (false, eval b X.env)] := by rfl) (hs2 : starEach [b] X.env = [(false, eval b X.env)] := by rfl) :
    PI X tg (.Call (.Name "range" p) [a, b] [] pos) (iRng2 ta) := by
  intro pins s σ H R I h
  refine Call_ (ld_blt I hg hm boot_range (PyProof.Rows.callWith_type1 (thn (ha pos pins s σ H _ I h) fun us s1 ⟨vs, H1, I1, r1, q1⟩ => ?_) (by rw [hs, hs2]) (by rw [hs2]; rfl)))
  obtain ⟨i, j, e, ⟨q1, q2, q3, q4⟩, q⟩ := q1
  subst e
  cases r1 with
  | cons r rr =>
    cases rr with
    | cons r' rr =>
      cases rr
      obtain ⟨t, rfl⟩ := r
      obtain ⟨t', rfl⟩ := r'
      exact call_range_2 (range_it I1 q1 q2 q3 q4 q)
def tFor (wi : TI) (g : TG) (tb : TS) : TS := fun D σ H => wi σ H fun J H1 => ∃ W : Nat → Nat → St → Hp → Prop, (∃ m, W 0 m σ H1) ∧ ∀ i m σ H, W i m σ H →
  (J.stop i H ∧ D.nx σ H) ∨ (J.go i H ∧ ∃ N : St → Hp → Prop, (∀ σ' H', N σ' H' → ∃ m', m' < m ∧ W (i + 1) m' σ' H') ∧ ∀ x H', J.yld i H x H' → g x σ H' fun σ2 H2 => tb { D with nx := N, ct := N, bk := D.nx } σ2 H2)
def pinsAt (fp : List Addr) (h : Heap) : List (Addr × Obj) := fp.filterMap fun b => (h.get? b).map fun o => (b, o)
theorem mem_pinsAt {fp : List Addr} {h : Heap} {b : Addr} {o : Obj} (hb : b ∈ fp) (e : h.get? b = some o) : (b, o) ∈ pinsAt fp h := List.mem_filterMap.mpr ⟨b, hb, by rw [e]; rfl⟩
theorem of_pinsAt {fp : List Addr} {h : Heap} {p : Addr × Obj} (hp : p ∈ pinsAt fp h) : p.1 ∈ fp ∧ h.get? p.1 = some p.2 := by
  obtain ⟨b, hb, e⟩ := List.mem_filterMap.mp hp
  cases q : h.get? b with
  | none => rw [q] at e; cases e
  | some o =>
    rw [q] at e
    have e' : (b, o) = p := Option.some.inj e
    subst e'
    exact ⟨hb, q⟩
theorem Inv.pinned {pins : List (Addr × Obj)} {σ : St} {H : Hp} {s : Shared} {fp : List Addr} (I : Inv X pins σ H s) (hf : ∀ b ∈ fp, FpOk X pins H b) (ho : ∀ b ∈ fp, ∃ o, s.heap.get? b = some o ∧ ∀ v, o.data ≠ .cell v) : Inv X (pins ++ pinsAt fp s.heap) σ H s :=
  I.pins_of fun p hp => (List.mem_append.mp hp).elim (fun z => I.pin p (List.mem_append_right _ z)) fun z => by
    obtain ⟨hb, e⟩ := of_pinsAt z
    obtain ⟨f0, f1, f2, _⟩ := hf p.1 hb
    obtain ⟨o, e', d⟩ := ho p.1 hb
    rw [e] at e'; cases e'
    exact ⟨e, f0, f1, f2, d⟩
theorem Inv.unpinned {pins pl : List (Addr × Obj)} {σ : St} {H : Hp} {s : Shared} (I : Inv X (pins ++ pl) σ H s) : Inv X pins σ H s := I.pins_of fun p hp => I.pin p (List.mem_append_right _ (List.mem_append_left _ hp))
theorem ps_for {iter : Expr} {body : List Stmt} {wi : TI} {g : TG} {tb : TS} {pos : Pos} (hp : PassesOwn (model X.prog X.w) X.A X.env X.xe) (hc : X.calm = true) (hi : PI X tg iter wi) (hg : PG X tg g) (hb : PSs X body tb)
    (hs : ∀ x, foldedSetIterable iter X.env x = pure x := by intro _; rfl) : PS X (.For tg iter body [] pos) (tFor wi g tb) := by
  intro pins s σ H D I h
  refine wpAny_For (thn (hi pins s σ H _ I h) fun v s1 h1 => thn h1 fun itv s2 h2 => ?_) hs
  obtain ⟨it, fp, tn, J, H2, e, I2, T, st2, f2, W, ⟨m0, w0⟩, turn⟩ := h2
  subst e
  have stat : ∀ {H' : Hp}, (∀ b ∈ fp, H' b = none) → ∀ b ∈ fp, FpOk X pins H' b := fun hn b hb => ⟨hn b hb, (f2 b hb).2⟩
  refine codeAny_forLoop_any (fun n s' => ∃ i σ' H', Inv X pins σ' H' s' ∧ tn i s'.heap ∧ (∀ b ∈ fp, H' b = none) ∧ W i n σ' H') ?_ m0 ⟨0, σ, H2, I2, st2, fun b hb => (f2 b hb).1, w0⟩
  rintro n s3 ⟨i, σ3, H3, I3, st3, fr3, w3⟩
  rcases turn i n σ3 H3 w3 with ⟨stop, qn⟩ | ⟨go, N, hN, step⟩
  · refine wpAny_passesOwn hp (thn (T.done X rfl rfl rfl hc i pins s3 σ3 H3 X.xe I3 (stat fr3) st3 stop) fun r s4 ⟨hr, I4⟩ => ?_)
    subst hr
    exact wpAny_execs_nil ⟨σ3, H3, I4, qn⟩
  · refine wpAny_passesOwn hp (thn (T.item X rfl rfl rfl hc i pins s3 σ3 H3 X.xe I3 (stat fr3) st3 go) fun r s4 ⟨u, hr, h4⟩ => ?_)
    subst hr
    refine wpAny_passesOwn hp (thn h4 fun _ s5 ⟨x, H5, I5, r5, y5, st5, fr5⟩ => ?_)
    have I5' := I5.pinned (stat fr5) (T.obj _ _ st5)
    refine wpAny_passesOwn hp (thn (hg _ s5 σ3 H5 x u _ I5' r5 (step x H5 y5)) fun _ s6 ⟨σ6, H6, I6, q6⟩ => ?_)
    refine wpAny_passesOwn hp (thn (hb _ s6 σ6 H6 _ I6 q6) fun f s7 q7 => ?_)
    have again : ∀ {σ7 : St} {H7 : Hp}, Inv X (pins ++ pinsAt fp s5.heap) σ7 H7 s7 → N σ7 H7 → ∃ m, m < n ∧ ∃ i σ' H', Inv X pins σ' H' s7 ∧ tn i s7.heap ∧ (∀ b ∈ fp, H' b = none) ∧ W i m σ' H' := fun {σ7 H7} I7 n7 => by
      obtain ⟨m', hm, w7⟩ := hN σ7 H7 n7
      refine ⟨m', hm, i + 1, σ7, H7, I7.unpinned, T.keep _ _ _ st5 fun b hb o e => (I7.pin (b, o) (List.mem_append_right _ (List.mem_append_right _ (mem_pinsAt hb e)))).1, fun b hb => ?_, w7⟩
      obtain ⟨o, e, d⟩ := T.obj _ _ st5 b hb
      exact (I7.pin (b, o) (List.mem_append_right _ (List.mem_append_right _ (mem_pinsAt hb e)))).2.1
    cases f with
    | next => obtain ⟨σ7, H7, I7, n7⟩ := q7; exact again I7 n7
    | cont => obtain ⟨σ7, H7, I7, n7⟩ := q7; exact again I7 n7
    | brk => obtain ⟨σ7, H7, I7, q7⟩ := q7; exact ⟨σ7, H7, I7.unpinned, q7⟩
    | ret v => obtain ⟨x7, σ7, H7, I7, r7, q7⟩ := q7; exact ⟨x7, σ7, H7, I7.unpinned, r7, q7⟩
end
theorem for_list {K : PySem.W.Frag} {a : Addr} {xs : List V} {g : TG} {tb : TS} {D : Ends} {σ : St} {H : Hp} (Pv : Nat → St → Hp → Prop) (h0 : Pv 0 σ H) (hl : ∀ i σ H, i ≤ xs.length → Pv i σ H → SqL K H a xs)
    (hs : ∀ i x σ H, xs[i]? = some x → Pv i σ H → g x σ H fun σ2 H2 => tb { D with nx := Pv (i + 1), ct := Pv (i + 1), bk := D.nx } σ2 H2) (hd : ∀ σ H, Pv xs.length σ H → D.nx σ H) :
    ∃ W : Nat → Nat → St → Hp → Prop, (∃ m, W 0 m σ H) ∧ ∀ i m σ H, W i m σ H →
      ((Itl K a).stop i H ∧ D.nx σ H) ∨ ((Itl K a).go i H ∧ ∃ N : St → Hp → Prop, (∀ σ' H', N σ' H' → ∃ m', m' < m ∧ W (i + 1) m' σ' H') ∧ ∀ x H', (Itl K a).yld i H x H' → g x σ H' fun σ2 H2 => tb { D with nx := N, ct := N, bk := D.nx } σ2 H2) := by
  refine ⟨fun i m σ H => m = xs.length - i ∧ i ≤ xs.length ∧ Pv i σ H, ⟨xs.length, by simp, Nat.zero_le _, h0⟩, ?_⟩
  rintro i m σ H ⟨rfl, hi, p⟩
  have q := hl i σ H hi p
  by_cases hlt : i < xs.length
  · refine .inr ⟨⟨xs, xs[i], q, by simp [hlt]⟩, Pv (i + 1), fun σ' H' p' => ⟨xs.length - (i + 1), by omega, rfl, hlt, p'⟩, fun x H' y => ?_⟩
    obtain ⟨e, y⟩ := y
    subst e
    exact hs i x σ _ (y xs q) p
  · have e : i = xs.length := by omega
    subst e
    exact .inl ⟨⟨xs, q, Nat.le_refl _⟩, hd σ H p⟩
theorem for_range {lo : Int} {n : Nat} {g : TG} {tb : TS} {D : Ends} {σ : St} {H : Hp} (Pv : Nat → St → Hp → Prop) (h0 : Pv 0 σ H)
    (hs : ∀ i σ H, i < n → Pv i σ H → g (.int (lo + i)) σ H fun σ2 H2 => tb { D with nx := Pv (i + 1), ct := Pv (i + 1), bk := D.nx } σ2 H2) (hd : ∀ σ H, Pv n σ H → D.nx σ H) :
    ∃ W : Nat → Nat → St → Hp → Prop, (∃ m, W 0 m σ H) ∧ ∀ i m σ H, W i m σ H →
      ((Itr lo n).stop i H ∧ D.nx σ H) ∨ ((Itr lo n).go i H ∧ ∃ N : St → Hp → Prop, (∀ σ' H', N σ' H' → ∃ m', m' < m ∧ W (i + 1) m' σ' H') ∧ ∀ x H', (Itr lo n).yld i H x H' → g x σ H' fun σ2 H2 => tb { D with nx := N, ct := N, bk := D.nx } σ2 H2) := by
  refine ⟨fun i m σ H => m = n - i ∧ i ≤ n ∧ Pv i σ H, ⟨n, by simp, Nat.zero_le _, h0⟩, ?_⟩
  rintro i m σ H ⟨rfl, hi, p⟩
  by_cases hlt : i < n
  · refine .inr ⟨hlt, Pv (i + 1), fun σ' H' p' => ⟨n - (i + 1), by omega, rfl, hlt, p'⟩, fun x H' y => ?_⟩
    obtain ⟨e, y⟩ := y
    subst e y
    exact hs i σ _ hlt p
  · have e : i = n := by omega
    subst e
    exact .inl ⟨Nat.le_refl _, hd σ H p⟩
theorem while_by {c : TT} {tb : TS} {D : Ends} {σ : St} {H : Hp} (Pv : St → Hp → Prop) (μ : St → Hp → Nat) (h0 : Pv σ H)
    (hs : ∀ σ H, Pv σ H → c σ H fun b H1 => if b = true then tb { D with nx := fun σ' H' => Pv σ' H' ∧ μ σ' H' < μ σ H, ct := fun σ' H' => Pv σ' H' ∧ μ σ' H' < μ σ H, bk := D.nx } σ H1 else D.nx σ H1)
    (mono : ∀ σ H Q Q', (∀ b H1, Q b H1 → Q' b H1) → c σ H Q → c σ H Q') : tWhile c tb D σ H := by
  refine ⟨fun m σ H => m = μ σ H ∧ Pv σ H, ⟨_, rfl, h0⟩, ?_⟩
  rintro m σ H ⟨rfl, p⟩
  refine mono σ H _ _ (fun b H1 q => ?_) (hs σ H p)
  cases b with
  | true => exact ⟨_, fun σ' H' ⟨p', l⟩ => ⟨_, l, rfl, p'⟩, q⟩
  | false => exact q
end L2
namespace L2
open PySem PySem.Spec PyProof.Rows
abbrev R2 := V → V → Hp → VK → Prop
def OpR (X : Cx) (f : Value → Value → Sem Value) (r : R2) : Prop :=
  ∀ (pins : List (Addr × Obj)) (s : Shared) (σ : St) (H : Hp) (x y : V) (v u : Value) (Q : VK), Inv X pins σ H s → RelV x v → RelV y u → r x y H Q →
    wpAny (model X.prog X.w) X.A (f v u) (EP X pins σ Q) X.xe s
def UnR (X : Cx) (f : Value → Sem Value) (r : V → Hp → VK → Prop) : Prop :=
  ∀ (pins : List (Addr × Obj)) (s : Shared) (σ : St) (H : Hp) (x : V) (v : Value) (Q : VK), Inv X pins σ H s → RelV x v → r x H Q →
    wpAny (model X.prog X.w) X.A (f v) (EP X pins σ Q) X.xe s
def CallR (X : Cx) (f : Value) (r : List V → Hp → VK → Prop) : Prop :=
  ∀ (pins : List (Addr × Obj)) (s : Shared) (σ : St) (H : Hp) (xs : List V) (us : List Value) (Q : VK), Inv X pins σ H s → Vals xs us → r xs H Q →
    wpAny (model X.prog X.w) X.A (call f us) (EP X pins σ Q) X.xe s
def TruR (X : Cx) (r : V → Hp → (Bool → Hp → Prop) → Prop) : Prop :=
  ∀ (pins : List (Addr × Obj)) (s : Shared) (σ : St) (H : Hp) (x : V) (v : Value) (Q : Bool → Hp → Prop), Inv X pins σ H s → RelV x v → r x H Q →
    wpAny (model X.prog X.w) X.A (truthy v) (TP X pins σ Q) X.xe s
def tOp (r : R2) (ta tb : TE) : TE := fun σ H Q => ta σ H fun x H1 => tb σ H1 fun y H2 => r x y H2 Q
def tUn (r : V → Hp → VK → Prop) (ta : TE) : TE := fun σ H Q => ta σ H fun x H1 => r x H1 Q
def rI (C : Int → Int → Prop) (g : Int → Int → V) : R2 := fun x y H Q => ∃ i j, x = .int i ∧ y = .int j ∧ C i j ∧ Q (g i j) H
def rI0 (g : Int → Int → V) : R2 := fun x y H Q => ∃ i j, x = .int i ∧ y = .int j ∧ Q (g i j) H
def rU (g : Int → V) : V → Hp → VK → Prop := fun x H Q => ∃ i, x = .int i ∧ Q (g i) H
section
variable {X : Cx} {a b c : Expr} {ta tb tc : TE} {pos : Pos}
theorem binT (ha : PE X a ta) (hb : PE X b tb) {pins : List (Addr × Obj)} {s : Shared} {σ : St} {H : Hp} {R : V → V → Hp → Prop} (I : Inv X pins σ H s)
    (h : ta σ H fun x H1 => tb σ H1 fun y H2 => R x y H2) {Q : Value → Shared → Prop} {f : Value → Value → Sem Value}
    (hf : ∀ v u s2 x y H2, Inv X pins σ H2 s2 → RelV x v → RelV y u → R x y H2 → wpAny (model X.prog X.w) X.A (f v u) Q X.xe s2) :
    wpAny (model X.prog X.w) X.A (eval a X.env) (fun v s₁ => wpAny (model X.prog X.w) X.A (eval b X.env) (fun u s₂ => wpAny (model X.prog X.w) X.A (f v u) Q X.xe s₂) X.xe s₁) X.xe s := by
  refine thn (ha pins s σ H _ I h) fun v s1 ⟨x, H1, I1, r1, q1⟩ => ?_
  refine thn (hb pins s1 σ H1 _ I1 q1) fun u s2 ⟨y, H2, I2, r2, q2⟩ => ?_
  exact hf v u s2 x y H2 I2 r1 r2 q2
theorem pe_op {op : Operator} {r : R2} (ho : OpR X (binaryOp op) r) (ha : PE X a ta) (hb : PE X b tb) : PE X (.BinOp a op b pos) (tOp r ta tb) := by
  intro pins s σ H Q I h
  exact wpAny_BinOp (binT ha hb I h fun v u s2 x y H2 I2 rx ry q => ho pins s2 σ H2 x y v u Q I2 rx ry q)
theorem pe_un {op : UnaryOp} {r : V → Hp → VK → Prop} (ho : UnR X (unaryOp op) r) (ha : PE X a ta) : PE X (.UnaryOp op a pos) (tUn r ta) := by
  intro pins s σ H Q I h
  exact UnaryOp_ (thn (ha pins s σ H _ I h) fun v s1 ⟨x, H1, I1, r1, q1⟩ => ho pins s1 σ H1 x v Q I1 r1 q1)
theorem opI {f : Value → Value → Sem Value} {C : Int → Int → Prop} {g : Int → Int → Int}
    (rule : ∀ (i j : Int) (t u : Tok) (s : Shared) (Q : Value → Shared → Prop) (E : Value → Shared → Prop), C i j → Q (.int (g i j) s.toks) { s with toks := s.toks + 1 } → wpAny (model X.prog X.w) X.A (f (.int i t) (.int j u)) Q E s) :
    OpR X f (rI C fun i j => .int (g i j)) := by
  intro pins s σ H x y v u Q I rx ry h
  obtain ⟨i, j, rfl, rfl, hc, q⟩ := h
  obtain ⟨t, rfl⟩ := rx
  obtain ⟨t', rfl⟩ := ry
  exact rule i j t t' s _ _ hc ⟨.int (g i j), H, I.tok _, ⟨_, rfl⟩, q⟩
theorem opI0 {f : Value → Value → Sem Value} {g : Int → Int → Int}
    (rule : ∀ (i j : Int) (t u : Tok) (s : Shared) (Q : Value → Shared → Prop) (E : Value → Shared → Prop), Q (.int (g i j) s.toks) { s with toks := s.toks + 1 } → wpAny (model X.prog X.w) X.A (f (.int i t) (.int j u)) Q E s) :
    OpR X f (rI0 fun i j => .int (g i j)) := by
  intro pins s σ H x y v u Q I rx ry h
  obtain ⟨i, j, rfl, rfl, q⟩ := h
  obtain ⟨t, rfl⟩ := rx
  obtain ⟨t', rfl⟩ := ry
  exact rule i j t t' s _ _ ⟨.int (g i j), H, I.tok _, ⟨_, rfl⟩, q⟩
theorem opB0 {f : Value → Value → Sem Value} {g : Int → Int → Bool}
    (rule : ∀ (i j : Int) (t u : Tok) (s : Shared) (Q : Value → Shared → Prop) (E : Value → Shared → Prop), Q (.bool (g i j)) s → wpAny (model X.prog X.w) X.A (f (.int i t) (.int j u)) Q E s) :
    OpR X f (rI0 fun i j => .bl (g i j)) := by
  intro pins s σ H x y v u Q I rx ry h
  obtain ⟨i, j, rfl, rfl, q⟩ := h
  obtain ⟨t, rfl⟩ := rx
  obtain ⟨t', rfl⟩ := ry
  exact rule i j t t' s _ _ ⟨.bl (g i j), H, I, rfl, q⟩
def CDiv (i j : Int) : Prop := 0 < j ∧ j < 1073741824
def CMul (i j : Int) : Prop := (-(2 ^ 64) < i ∧ i < 2 ^ 64) ∨ (-(2 ^ 64) < j ∧ j < 2 ^ 64)
theorem CMul.ok {i j : Int} (h : CMul i j) : IntMulOk i j := by
  rcases h with ⟨h1, h2⟩ | ⟨h1, h2⟩
  · exact .of_left (intBits_le_64 h1 h2)
  · exact .of_right (intBits_le_64 h1 h2)
theorem op_add : OpR X (binaryOp .Add) (rI0 fun i j => .int (i + j)) := opI0 fun _ _ _ _ _ _ _ q => add_int q
theorem op_sub : OpR X (binaryOp .Sub) (rI0 fun i j => .int (i - j)) := opI0 fun _ _ _ _ _ _ _ q => sub_int q
theorem op_mul : OpR X (binaryOp .Mult) (rI CMul fun i j => .int (i * j)) := opI fun _ _ _ _ _ _ _ hc q => mul_int q hc.ok
theorem op_fdiv : OpR X (binaryOp .FloorDiv) (rI CDiv fun i j => .int (i / j)) := opI fun i j _ _ _ _ _ hc q => by
  have h1 : (0 : Int) < j := hc.1
  have h2 : j < 1073741824 := hc.2
  exact floordiv_int (by omega) (by rw [Int.fdiv_eq_ediv_of_nonneg i (by omega)]; exact q) (.inl (PyProof.noPylong_small (by omega)))
theorem op_mod : OpR X (binaryOp .Mod) (rI (fun _ j => 0 < j) fun i j => .int (i % j)) := opI fun i j _ _ _ _ _ hc q => by
  have h1 : (0 : Int) < j := hc
  exact mod_int' (by omega) (by rw [Int.fmod_eq_emod_of_nonneg i (by omega)]; exact q)
theorem op_xor : OpR X (binaryOp .BitXor) (rI0 fun i j => .int (Builtin.bitXor i j)) := opI0 fun _ _ _ _ _ _ _ q => xor_int q
theorem unI {f : Value → Sem Value} {g : Int → Int}
    (rule : ∀ (i : Int) (t : Tok) (s : Shared) (Q : Value → Shared → Prop) (E : Value → Shared → Prop), Q (.int (g i) s.toks) { s with toks := s.toks + 1 } → wpAny (model X.prog X.w) X.A (f (.int i t)) Q E s) :
    UnR X f (rU fun i => .int (g i)) := by
  intro pins s σ H x v Q I rx h
  obtain ⟨i, rfl, q⟩ := h
  obtain ⟨t, rfl⟩ := rx
  exact rule i t s _ _ ⟨.int (g i), H, I.tok _, ⟨_, rfl⟩, q⟩
theorem un_neg : UnR X (unaryOp .USub) (rU fun i => .int (-i)) := unI fun _ _ _ _ _ q => neg_int q
end
def scal : V → V → Bool
  | .non, .non => true | .non, .int _ => true | .int _, .non => true | .non, .bl _ => true | .bl _, .non => true | .non, .str _ => true | .str _, .non => true
  | .int _, .int _ => true | .bl _, .bl _ => true | .str _, .str _ => true | .byt _, .byt _ => true
  | .int _, .str _ => true | .str _, .int _ => true | .bl _, .str _ => true | .str _, .bl _ => true
  | _, _ => false
def rEq : R2 := fun x y H Q => scal x y = true ∧ Q (.bl (decide (x = y))) H
def rNe : R2 := fun x y H Q => scal x y = true ∧ Q (.bl (!decide (x = y))) H
theorem dec_int {i j : Int} : decide (V.int i = V.int j) = (i == j) := by
  rw [Bool.eq_iff_iff]
  simp
theorem dec_bl {i j : Bool} : decide (V.bl i = V.bl j) = (i == j) := by
  rw [Bool.eq_iff_iff]
  simp
theorem dec_str {i j : Str} : decide (V.str i = V.str j) = (i == j) := by
  rw [Bool.eq_iff_iff]
  simp
theorem dec_byt {i j : Array UInt8} : decide (V.byt i = V.byt j) = (i.toList == j.toList) := by
  rw [Bool.eq_iff_iff]
  cases i
  cases j
  simp
section
variable {X : Cx} {a b c : Expr} {ta tb tc : TE} {pos : Pos}
theorem fin_bl {pins : List (Addr × Obj)} {σ : St} {H : Hp} {s : Shared} {Q : VK} {k k' : Bool} (I : Inv X pins σ H s) (q : Q (.bl k) H) (e : k = k') : EP X pins σ Q (.bool k') s := by
  subst e
  exact ⟨.bl k, H, I, rfl, q⟩
theorem op_eq : OpR X (compareOp .Eq) rEq := by
  intro pins s σ H x y v u Q I rx ry h
  obtain ⟨hs, q⟩ := h
  cases x with
  | non =>
    cases rx
    cases y with
    | non => cases ry; exact PySem.EqNone.eq_none_none (fin_bl I q (by simp))
    | bl j => cases ry; exact PySem.EqNone.eq_none_bool (fin_bl I q (by simp))
    | int j => obtain ⟨t', rfl⟩ := ry; exact PySem.EqNone.eq_none_int (fin_bl I q (by simp))
    | str j => obtain ⟨t', rfl⟩ := ry; exact PySem.EqNone.eq_none_str (fin_bl I q (by simp))
    | _ => exact absurd (show false = true from hs) Bool.false_ne_true
  | bl i =>
    cases rx
    cases y with
    | non => cases ry; exact PySem.EqNone.eq_bool_none (fin_bl I q (by simp))
    | bl j => cases ry; exact eq_bool (fin_bl I q dec_bl)
    | str j => obtain ⟨t', rfl⟩ := ry; exact PySem.EqMixed.eq_bool_str (fin_bl I q (by simp))
    | _ => exact absurd (show false = true from hs) Bool.false_ne_true
  | int i =>
    obtain ⟨t, rfl⟩ := rx
    cases y with
    | non => cases ry; exact PySem.EqNone.eq_int_none (fin_bl I q (by simp))
    | int j => obtain ⟨t', rfl⟩ := ry; exact eq_int (fin_bl I q dec_int)
    | str j => obtain ⟨t', rfl⟩ := ry; exact PySem.EqMixed.eq_int_str (fin_bl I q (by simp))
    | _ => exact absurd (show false = true from hs) Bool.false_ne_true
  | str i =>
    obtain ⟨t, rfl⟩ := rx
    cases y with
    | non => cases ry; exact PySem.EqNone.eq_str_none (fin_bl I q (by simp))
    | bl j => cases ry; exact PySem.EqMixed.eq_str_bool (fin_bl I q (by simp))
    | int j => obtain ⟨t', rfl⟩ := ry; exact PySem.EqMixed.eq_str_int (fin_bl I q (by simp))
    | str j => obtain ⟨t', rfl⟩ := ry; exact eq_str (fin_bl I q dec_str)
    | _ => exact absurd (show false = true from hs) Bool.false_ne_true
  | byt i =>
    obtain ⟨t, rfl⟩ := rx
    cases y with
    | byt j => obtain ⟨t', rfl⟩ := ry; exact PySem.W.eq_bytes (fin_bl I q dec_byt)
    | _ => exact absurd (show false = true from hs) Bool.false_ne_true
  | _ => cases y <;> exact absurd (show false = true from hs) Bool.false_ne_true
theorem op_ne : OpR X (compareOp .NotEq) rNe := by
  intro pins s σ H x y v u Q I rx ry h
  obtain ⟨hs, q⟩ := h
  cases x with
  | non =>
    cases rx
    cases y with
    | non => cases ry; exact PySem.EqNone.ne_none_none (fin_bl I q (by simp))
    | bl j => cases ry; exact PySem.EqNone.ne_none_bool (fin_bl I q (by simp))
    | int j => obtain ⟨t', rfl⟩ := ry; exact PySem.EqNone.ne_none_int (fin_bl I q (by simp))
    | str j => obtain ⟨t', rfl⟩ := ry; exact PySem.EqNone.ne_none_str (fin_bl I q (by simp))
    | _ => exact absurd (show false = true from hs) Bool.false_ne_true
  | bl i =>
    cases rx
    cases y with
    | non => cases ry; exact PySem.EqNone.ne_bool_none (fin_bl I q (by simp))
    | bl j => cases ry; exact ne_bool (fin_bl I q (congrArg not dec_bl))
    | str j => obtain ⟨t', rfl⟩ := ry; exact PySem.EqMixed.ne_bool_str (fin_bl I q (by simp))
    | _ => exact absurd (show false = true from hs) Bool.false_ne_true
  | int i =>
    obtain ⟨t, rfl⟩ := rx
    cases y with
    | non => cases ry; exact PySem.EqNone.ne_int_none (fin_bl I q (by simp))
    | int j => obtain ⟨t', rfl⟩ := ry; exact ne_int (fin_bl I q (congrArg not dec_int))
    | str j => obtain ⟨t', rfl⟩ := ry; exact PySem.EqMixed.ne_int_str (fin_bl I q (by simp))
    | _ => exact absurd (show false = true from hs) Bool.false_ne_true
  | str i =>
    obtain ⟨t, rfl⟩ := rx
    cases y with
    | non => cases ry; exact PySem.EqNone.ne_str_none (fin_bl I q (by simp))
    | bl j => cases ry; exact PySem.EqMixed.ne_str_bool (fin_bl I q (by simp))
    | int j => obtain ⟨t', rfl⟩ := ry; exact PySem.EqMixed.ne_str_int (fin_bl I q (by simp))
    | str j => obtain ⟨t', rfl⟩ := ry; exact ne_str (fin_bl I q (congrArg not dec_str))
    | _ => exact absurd (show false = true from hs) Bool.false_ne_true
  | byt i =>
    obtain ⟨t, rfl⟩ := rx
    cases y with
    | byt j => obtain ⟨t', rfl⟩ := ry; exact PySem.W.ne_bytes (fin_bl I q (congrArg not dec_byt))
    | _ => exact absurd (show false = true from hs) Bool.false_ne_true
  | _ => cases y <;> exact absurd (show false = true from hs) Bool.false_ne_true
theorem op_lt : OpR X (compareOp .Lt) (rI0 fun i j => .bl (decide (i < j))) := opB0 fun _ _ _ _ _ _ _ q => lt_int q
theorem op_le : OpR X (compareOp .LtE) (rI0 fun i j => .bl (decide (i ≤ j))) := opB0 fun _ _ _ _ _ _ _ q => le_int q
theorem op_gt : OpR X (compareOp .Gt) (rI0 fun i j => .bl (decide (j < i))) := opB0 fun _ _ _ _ _ _ _ q => gt_int q
theorem op_ge : OpR X (compareOp .GtE) (rI0 fun i j => .bl (decide (j ≤ i))) := opB0 fun _ _ _ _ _ _ _ q => ge_int q
theorem op_isN : OpR X (compareOp .Is) (fun x y H Q => y = .non ∧ Q (.bl (decide (x = .non))) H) := by
  intro pins s σ H x y v u Q I rx ry h
  obtain ⟨rfl, q⟩ := h
  cases ry
  refine is_none_gen (fin_bl I q ?_)
  cases x <;> first
    | (cases rx; rfl)
    | (obtain ⟨t, rfl⟩ := rx; rfl)
theorem op_notN : OpR X (compareOp .IsNot) (fun x y H Q => y = .non ∧ Q (.bl (!decide (x = .non))) H) := by
  intro pins s σ H x y v u Q I rx ry h
  obtain ⟨rfl, q⟩ := h
  cases ry
  refine isnot_none_gen (fin_bl I q ?_)
  cases x <;> first
    | (cases rx; rfl)
    | (obtain ⟨t, rfl⟩ := rx; rfl)
theorem nomark (b : Expr) {op : CmpOp} (h : op ≠ .In := by decide) (h2 : op ≠ .NotIn := by decide) : behindInMarks op b = false := by
  have e1 : (op == CmpOp.In) = false := by cases op <;> first | rfl | exact absurd rfl h
  have e2 : (op == CmpOp.NotIn) = false := by cases op <;> first | rfl | exact absurd rfl h2
  cases b <;> simp [behindInMarks, e1, e2]
theorem pe_cmpR {op : CmpOp} {r : R2} (ho : OpR X (compareOp op) r) (ha : PE X a ta) (hb : PE X b tb) (hm : behindInMarks op b = false) : PE X (.Compare a [op] [b] pos) (tOp r ta tb) := by
  intro pins s σ H Q I h
  exact wpAny_Compare1 (binT ha hb I h fun v u s2 x y H2 I2 rx ry q => ho pins s2 σ H2 x y v u Q I2 rx ry q) hm
def tTest (t : TE) : TT := fun σ H Q => t σ H fun x H' => ∃ k, x = .bl k ∧ Q k H'
theorem pt_cmpR {op : CmpOp} {r : R2} (ho : OpR X (compareOp op) r) (ha : PE X a ta) (hb : PE X b tb) (hm : behindInMarks op b = false) : PT X (.Compare a [op] [b] pos) (tTest (tOp r ta tb)) := by
  intro pins s σ H Q I h
  refine wpAny_isTrue_Compare1 (thn (ha pins s σ H _ I h) fun v s1 ⟨x, H1, I1, r1, q1⟩ => thn (hb pins s1 σ H1 _ I1 q1) fun u s2 ⟨y, H2, I2, r2, q2⟩ =>
    thn (ho pins s2 σ H2 x y v u _ I2 r1 r2 q2) fun c s3 ⟨z, H3, I3, r3, k, e, q3⟩ => ?_) hm
  subst e
  cases r3
  exact wpAny_truthy_bool ⟨H3, I3, q3⟩
def tChain (r r' : R2) (ta tb tc : TE) : TE := fun σ H Q => ta σ H fun x H1 => tb σ H1 fun y H2 => r x y H2 fun z H3 => ∃ k, z = .bl k ∧
  (if k = true then tc σ H3 fun w' H4 => r' y w' H4 Q else Q (.bl false) H3)
theorem pe_chain {op op' : CmpOp} {r r' : R2} (ho : OpR X (compareOp op) r) (ho' : OpR X (compareOp op') r') (ha : PE X a ta) (hb : PE X b tb) (hc : PE X c tc)
    (hm : lastMarks [op, op'] [b, c] = false := by with_unfolding_all rfl) : PE X (.Compare a [op, op'] [b, c] pos) (tChain r r' ta tb tc) := by
  intro pins s σ H Q I h
  refine Compare_chain (thn (ha pins s σ H _ I h) fun v s1 ⟨x, H1, I1, r1, q1⟩ => chain_link (thn (hb pins s1 σ H1 _ I1 q1) fun u s2 ⟨y, H2, I2, r2, q2⟩ =>
    thn (ho pins s2 σ H2 x y v u _ I2 r1 r2 q2) fun d s3 ⟨z, H3, I3, r3, k, e, q3⟩ => ?_)) hm
  subst e
  cases r3
  refine wpAny_truthy_bool ?_
  cases k with
  | false => exact ite_ff ⟨.bl false, H3, I3, rfl, q3⟩
  | true => exact ite_tt (chain_last (thn (hc pins s3 σ H3 _ I3 q3) fun w' s4 ⟨z', H4, I4, r4, q4⟩ => ho' pins s4 σ H4 y z' u w' Q I4 r2 r4 q4))
def TruV (K : PySem.W.Frag) (x : V) (H : Hp) (k : Bool) : Prop :=
  match x with
  | .non => k = false
  | .bl b => k = b
  | .int i => k = (i != 0)
  | .str y => y.length ≤ sizeLine ∧ k = ((y.length : Int) != 0)
  | .byt y => y.size ≤ sizeLine ∧ k = ((y.size : Int) != 0)
  | .ref p => (∃ xs, SqL K H p xs ∧ k = !xs.isEmpty) ∨ (∃ xs, SqT K H p xs ∧ k = !xs.isEmpty) ∨ ∃ kvs, H p = some (.dK kvs) ∧ k = !kvs.isEmpty
  | _ => False
theorem isEmpty_kv {κ : Type} {kvs : List (κ × V)} {vs : List (κ × Value)} (r : KV kvs vs) : (!vs.isEmpty) = !kvs.isEmpty := by
  cases r <;> rfl
theorem isEmpty_of {xs : List V} {its : List Value} (r : Vals xs its) : (!its.toArray.isEmpty) = !xs.isEmpty := by
  cases r <;> simp
theorem line63 : (sizeLine : Nat) < 2 ^ 63 := by rw [sizeLine_eq]; decide
theorem tru_ok : TruR X (fun x H Q => ∃ k, TruV X.K x H k ∧ Q k H) := by
  intro pins s σ H x v Q I rx h
  obtain ⟨k, e, q⟩ := h
  have hl := line63
  have hs : sizeLine = 16777216 := sizeLine_eq
  cases x with
  | non =>
    cases rx
    have e' : k = false := e
    subst e'
    exact truthy_none ⟨H, I, q⟩
  | bl b =>
    cases rx
    have e' : k = b := e
    subst e'
    exact wpAny_truthy_bool ⟨H, I, q⟩
  | int i =>
    obtain ⟨t, rfl⟩ := rx
    have e' : k = (i != 0) := e
    subst e'
    exact PySem.P.truthy_int ⟨H, I, q⟩
  | str y =>
    obtain ⟨t, rfl⟩ := rx
    obtain ⟨hy, e'⟩ : y.length ≤ sizeLine ∧ k = ((y.length : Int) != 0) := e
    subst e'
    exact PySem.P.truthy_str (by omega) ⟨H, I.tok _, q⟩
  | byt y =>
    obtain ⟨t, rfl⟩ := rx
    obtain ⟨hy, e'⟩ : y.size ≤ sizeLine ∧ k = ((y.size : Int) != 0) := e
    subst e'
    exact PySem.W.truthy_bytes (by omega) ⟨H, I.tok _, q⟩
  | ref p =>
    cases rx
    have e' : (∃ xs, SqL X.K H p xs ∧ k = !xs.isEmpty) ∨ (∃ xs, SqT X.K H p xs ∧ k = !xs.isEmpty) ∨ ∃ kvs, H p = some (.dK kvs) ∧ k = !kvs.isEmpty := e
    rcases e' with ⟨xs, hx, e'⟩ | ⟨xs, hx, e'⟩ | ⟨kvs, hx, e'⟩
    · subst e'
      obtain ⟨its, r, pl, hz⟩ := I.list hx
      have hlen := r.length
      exact wpAny_truthy_list pl.isList (by simp only [List.size_toArray]; omega) ⟨H, I.tok _, by rw [isEmpty_of r]; exact q⟩
    · subst e'
      obtain ⟨its, r, pl, hz⟩ := I.tuple hx
      have hlen := r.length
      exact truthy_tuple pl (by simp only [List.size_toArray]; omega) ⟨H, I.tok _, by rw [isEmpty_of r]; exact q⟩
    · subst e'
      obtain ⟨hz, hS, vs, r, m⟩ : kvs.length ≤ sizeLine ∧ (p == sysModules) = false ∧ ∃ vs, KV kvs vs ∧ s.heap.DictOf (mixKind X.prog X.w) p vs := I.hok p _ hx
      have hlen : kvs.length = vs.length := Paired.length r
      exact wpAny_truthy_dict hS m (by omega) ⟨H, I.tok _, by rw [isEmpty_kv r]; exact q⟩
  | _ => exact (show False from e).elim
theorem pt_truth (ha : PE X a ta) (he : ∀ whole, isTrue a X.env whole = (do let v ← whole; standAt a.pos; holding [v] (truthy v))) :
    PT X a (fun σ H Q => ta σ H fun x H' => ∃ k, TruV X.K x H' k ∧ Q k H') := by
  intro pins s σ H Q I h
  exact isTrue_plain (thn (ha pins s σ H _ I h) fun v s1 ⟨x, H1, I1, r1, q1⟩ => tru_ok pins s1 σ H1 x v Q I1 r1 q1) (he _)
theorem vals1 {x : V} {us : List Value} (r : Vals [x] us) : ∃ u, us = [u] ∧ RelV x u := by
  cases r with
  | cons r1 r2 => cases r2; exact ⟨_, rfl, r1⟩
theorem vals2 {x y : V} {us : List Value} (r : Vals [x, y] us) : ∃ u w', us = [u, w'] ∧ RelV x u ∧ RelV y w' := by
  cases r with
  | cons r1 r2 =>
    cases r2 with
    | cons r3 r4 => cases r4; exact ⟨_, _, rfl, r1, r3⟩
theorem call_max2 (hc : X.calm = true) : CallR X (.builtin "max") (fun xs H Q => ∃ i j, xs = [.int i, .int j] ∧ Q (.int (if j > i then j else i)) H) := by
  intro pins s σ H xs us Q I r h
  obtain ⟨i, j, rfl, q⟩ := h
  obtain ⟨u, w', rfl, ⟨t, rfl⟩, ⟨t', rfl⟩⟩ := vals2 r
  refine max_two_ints (I.ok.hd hc) fun h' tk k => ⟨_, H, I.kept k, ?_, q⟩
  by_cases hj : j > i
  · rw [if_pos hj, if_pos hj]; exact ⟨_, rfl⟩
  · rw [if_neg hj, if_neg hj]; exact ⟨_, rfl⟩
theorem call_min2 (hc : X.calm = true) : CallR X (.builtin "min") (fun xs H Q => ∃ i j, xs = [.int i, .int j] ∧ Q (.int (if j < i then j else i)) H) := by
  intro pins s σ H xs us Q I r h
  obtain ⟨i, j, rfl, q⟩ := h
  obtain ⟨u, w', rfl, ⟨t, rfl⟩, ⟨t', rfl⟩⟩ := vals2 r
  refine min_two_ints (I.ok.hd hc) fun h' tk k => ⟨_, H, I.kept k, ?_, q⟩
  by_cases hj : j < i
  · rw [if_pos hj, if_pos hj]; exact ⟨_, rfl⟩
  · rw [if_neg hj, if_neg hj]; exact ⟨_, rfl⟩
end
end L2
namespace L2
open PySem PySem.Spec PyProof.Rows
structure ObjM (h : Heap) (x dx C : Addr) (mA : Str → Option Value) : Prop where
  obj : h.get? x = some (PySem.W.instObj C dx)
  ns : h.Ns1 dx mA
  ne : dx ≠ x
theorem lookIn_ns {h : Heap} {dx : Addr} {mA : Str → Option Value} (n : h.Ns1 dx mA) : ∃ od, h.get? dx = some od ∧ ∀ name, PySem.W.lookIn name od = some (mA name) := by
  obtain ⟨o, es, ep, ho, hd, hk, _, hm⟩ := n
  refine ⟨o, ho, fun name => ?_⟩
  have e := hm name
  unfold nsFind findBy at e
  rw [← Array.find?_toList] at e
  unfold PySem.W.lookIn
  rw [hd]
  dsimp only
  split
  · rename_i y q
    rw [q] at e
    exact congrArg some e
  · rename_i q
    rw [q] at e
    have a : es.toList.any (·.refKey) = false := by
      rw [List.any_eq_false]
      intro y hy
      obtain ⟨z, t, hkey⟩ := hk y (Array.mem_toList_iff.mp hy)
      simp [DictEntry.refKey, hkey]
    have a' : ¬ es.toList.any (·.refKey) = true := by rw [a]; exact Bool.false_ne_true
    rw [if_neg a']
    exact congrArg some e
theorem ObjM.look {h : Heap} {x dx C : Addr} {mA : Str → Option Value} (I : ObjM h x dx C mA) : ∃ od, PySem.W.InstAt h x (PySem.W.instObj C dx) C (some od) ∧ ∀ name, PySem.W.lookIn name od = some (mA name) :=
  let ⟨od, ho, hl⟩ := lookIn_ns I.ns
  ⟨od, ⟨I.obj, rfl, rfl, ho⟩, hl⟩
section
variable {prog : Program} {w : World} {A : Around} {E : Value → Shared → Prop} {s : Shared} {K : PySem.W.Frag} {x dx C f : Addr} {mA : Str → Option Value} {name : Str} {v : Value}
theorem get_map {expr : Bool} {Q : Value → Shared → Prop} (X : K.In s.heap) (I : ObjM s.heap x dx C mA) (hg : PySem.W.plainGet K C name = true) (hh : PySem.W.hasDictIn K C = true)
    (ha : PySem.W.findIn K (.ref C) name = some none) (hv : mA name = some v) (hv' : PySem.W.handedIn v = true) (h : Q v { s with toks := s.toks + 1 }) :
    wpAny (model prog w) A (getAttr (.ref x) name expr) Q E s := by
  obtain ⟨od, J, hl⟩ := I.look
  exact PySem.W.get_value X J (PySem.W.plainGet_of hg).1 (PySem.W.findObj_own hh ha rfl (by rw [hl, hv])) hv' h
theorem set_map {ns : List Str} {Q : Unit → Shared → Prop} (X : K.In s.heap) (I : ObjM s.heap x dx C mA)
    (hs : PySem.W.findIn K (.ref C) "__setattr__" = some (some (.builtin "object.__setattr__"))) (hp : PySem.W.plainOver K C = true) (ht : PySem.W.takerIn K C name = some none) (hh : PySem.W.hasDictIn K C = true)
    (hw : PySem.Within mA ns) (hsz : ns.length ≤ sizeLine)
    (h : ∀ h', ObjM h' x dx C (fun y => if y = name then some v else mA y) → Heap.SameBut dx s.heap h' → Q () { s with heap := h', toks := s.toks + 2 }) :
    wpAny (model prog w) A (setAttr (.ref x) name v) Q E s := by
  obtain ⟨od, J, hl⟩ := I.look
  refine PySem.W.set_plain X J hs (PySem.W.osa_open (s := { s with toks := s.toks + 1 }) (r := none) X J hp ht fun b => ?_)
  obtain ⟨cd, hc, hd'⟩ := PySem.W.any_some hh
  have hx : s.heap.get? x = some ⟨.ref C, some dx, .plain, #[]⟩ := I.obj
  refine wpAny_bind (wpAny_pure (wpAny_bind (wpAny_bind (wpAny_loadPart hx (wpAny_bind (PySem.W.Looks.here (s := { s with toks := s.toks + 1 }) (PySem.W.looks_clsIn X hc) ?_))))))
  rw [hd']
  refine wpAny_pure (a := some dx) (wpAny_bind (wpAny_pure (wpAny_bind ?_)))
  refine wpAny_nsSet1 (s := { s with toks := s.toks + 1 }) I.ns fun h' hn2 hs2 => ?_
  obtain ⟨oD, esD, epD, hoD, hdD, hcD⟩ := hn2.count (PySem.Within.cons name v hw)
  refine wpAny_bind (wpAny_lookBehind hoD (by rw [hdD]; exact pastItsLine_dict (Nat.le_trans hcD (by rw [List.length_cons]; omega))) ?_)
  exact wpAny_pure (h _ ⟨(hs2.2 _ (Ne.symm I.ne)).trans I.obj, hn2, I.ne⟩ hs2)
theorem make_map {R : Result → Shared → Prop} {vs : List Value} {kw : List (Str × Value)} (X : K.In s.heap) (hm : PySem.W.makesIn K C = true)
    (hi : PySem.W.findIn K (.ref C) "__init__" = some (some (.ref f))) (hf : PySem.W.typeIn K (.ref f) = some (.type "function"))
    (h : codeAny (model prog w) (A.under (.builtin "type.__call__" ⟨.ref C :: vs, kw⟩)) (.call (.ref f) ⟨.ref (s.heap.objs.size + 1) :: vs, kw⟩) (PySem.W.InitBack (s.heap.objs.size + 1) R)
      { s with heap := (s.heap.push PySem.W.emptyDict).push (PySem.W.instObj C s.heap.objs.size) }) :
    codeAny (model prog w) A (.call (.ref C) ⟨vs, kw⟩) R s := by
  obtain ⟨hh, g, d, t, os⟩ := s
  exact PySem.W.make_core (PySem.W.makes_of X hm) (PySem.W.looks_findIn X hi) (fun self => PySem.W.bind_fn X self hf) (.inl rfl) h
end
def putF (f : Str) (v : V) : List (Str × V) → List (Str × V)
  | [] => [(f, v)]
  | (g, x) :: r => if g = f then (g, v) :: r else (g, x) :: putF f v r
theorem lookup_putF (f g : Str) (v : V) : ∀ fs : List (Str × V), (putF f v fs).lookup g = if g = f then some v else fs.lookup g
  | [] => by
    show List.lookup g [(f, v)] = _
    by_cases h : g = f
    · have hb : (g == f) = true := beq_iff_eq.mpr h
      simp only [List.lookup, hb, if_pos h]
    · have hb : (g == f) = false := beq_eq_false_iff_ne.mpr h
      simp only [List.lookup, hb, if_neg h]
  | (k, x) :: r => by
    have ih := lookup_putF f g v r
    rw [show putF f v ((k, x) :: r) = (if k = f then (k, v) :: r else (k, x) :: putF f v r) from rfl]
    by_cases hk : k = f
    · rw [if_pos hk]
      by_cases h : g = k
      · have hb : (g == k) = true := beq_iff_eq.mpr h
        simp only [List.lookup, hb, if_pos (h.trans hk)]
      · have hb : (g == k) = false := beq_eq_false_iff_ne.mpr h
        simp only [List.lookup, hb, if_neg (fun e : g = f => h (e.trans hk.symm))]
    · rw [if_neg hk]
      by_cases h : g = k
      · have hb : (g == k) = true := beq_iff_eq.mpr h
        simp only [List.lookup, hb, if_neg (fun e : g = f => hk (h.symm.trans e))]
      · have hb : (g == k) = false := beq_eq_false_iff_ne.mpr h
        simp only [List.lookup, hb]
        exact ih
theorem keys_putF (f : Str) (v : V) : ∀ fs : List (Str × V), f ∈ (putF f v fs).map (·.1) ∧ ∀ g, g ∈ fs.map (·.1) → g ∈ (putF f v fs).map (·.1)
  | [] => ⟨by simp [putF], fun g h => by simp at h⟩
  | (k, x) :: r => by
    obtain ⟨i1, i2⟩ := keys_putF f v r
    rw [show putF f v ((k, x) :: r) = (if k = f then (k, v) :: r else (k, x) :: putF f v r) from rfl]
    by_cases hk : k = f
    · rw [if_pos hk]
      subst hk
      exact ⟨by simp, fun g h => by simpa using h⟩
    · rw [if_neg hk]
      refine ⟨?_, fun g h => ?_⟩
      · rw [List.map_cons]
        exact List.mem_cons_of_mem _ i1
      · rw [List.map_cons] at h ⊢
        rcases List.mem_cons.mp h with e | e
        · exact List.mem_cons.mpr (.inl e)
        · exact List.mem_cons_of_mem _ (i2 g e)
theorem length_putF (f : Str) (v : V) : ∀ fs : List (Str × V), (putF f v fs).length ≤ fs.length + 1
  | [] => by simp [putF]
  | (k, x) :: r => by
    have ih := length_putF f v r
    rw [show putF f v ((k, x) :: r) = (if k = f then (k, v) :: r else (k, x) :: putF f v r) from rfl]
    by_cases hk : k = f
    · rw [if_pos hk, List.length_cons, List.length_cons]; omega
    · rw [if_neg hk, List.length_cons, List.length_cons]; omega
theorem RelO.some_of {v : V} {o : Option Value} (r : RelO (some v) o) : ∃ u, o = some u ∧ RelV v u := by
  cases o with
  | none => exact (show False from r).elim
  | some u => exact ⟨u, rfl, r⟩
theorem handed_of {v : V} {u : Value} (r : RelV v u) : PySem.W.handedIn u = true := by
  cases v with
  | non => cases (show u = Value.none from r); rfl
  | bl b => cases (show u = Value.bool b from r); rfl
  | int i => obtain ⟨t, e⟩ := (show ∃ t, u = Value.int i t from r); cases e; rfl
  | str x => obtain ⟨t, e⟩ := (show ∃ t, u = Value.str x t from r); cases e; rfl
  | byt b => obtain ⟨t, e⟩ := (show ∃ t, u = Value.bytes b t from r); cases e; rfl
  | flt b => obtain ⟨t, e⟩ := (show ∃ t, u = Value.float b t from r); cases e; rfl
  | ref a => cases (show u = Value.ref a from r); rfl
  | ty n => cases (show u = Value.type n from r); rfl
section
variable {P : Program} {w : World} {H H' : Hp} {h h' : Heap} {a C dx : Addr} {fs fs' : List (Str × V)}
theorem ins_get (hok : HOk P w H h) (e : H a = some (.ins C dx fs)) : ∃ mA, ObjM h a dx C mA ∧ (∀ f, RelO (fs.lookup f) (mA f)) ∧ PySem.Within mA (fs.map (·.1)) ∧ fs.length ≤ 1000 ∧ H dx = some (.own a) := by
  obtain ⟨d, z, ne, ob, mA, n, r, q⟩ := (show ObjOk P w H h a (.ins C dx fs) from hok a _ e)
  exact ⟨mA, ⟨ob, n, ne⟩, r, q, z, d⟩
end
structure Cls (K : PySem.W.Frag) (C : Addr) : Prop where
  pg : PySem.W.plainGet K C Str.empty = true
  hd : PySem.W.hasDictIn K C = true
  po : PySem.W.plainOver K C = true
  sa : PySem.W.findIn K (.ref C) "__setattr__" = some (some (.builtin "object.__setattr__"))
theorem Cls.get {K : PySem.W.Frag} {C : Addr} (c : Cls K C) (f : Str) : PySem.W.plainGet K C f = true := c.pg
def NoAttr (K : PySem.W.Frag) (C : Addr) (f : Str) : Prop := PySem.W.findIn K (.ref C) f = some none
theorem NoAttr.taker {K : PySem.W.Frag} {C : Addr} {f : Str} (n : NoAttr K C f) : PySem.W.takerIn K C f = some none := by
  unfold PySem.W.takerIn
  rw [show PySem.W.findIn K (.ref C) f = some none from n]
  rfl
structure Con (K : PySem.W.Frag) (C : Addr) (f : Str) (v : V) (u : Value) : Prop where
  at_ : PySem.W.findIn K (.ref C) f = some (some u)
  rel : RelV v u
  get : PySem.W.specialIn K u "__get__" = some none
  cp : PySem.W.copiedNames.contains f = false
structure Meth (K : PySem.W.Frag) (C : Addr) (m : Str) (f : Addr) : Prop where
  at_ : PySem.W.findIn K (.ref C) m = some (some (.ref f))
  fn : PySem.W.isFn K (.ref f) = true
  kp : PySem.W.keepIn K (.ref f) = true
section
variable {X : Cx} {pins : List (Addr × Obj)} {σ : St} {H : Hp} {s : Shared} {a C dx : Addr} {fs : List (Str × V)} {f : Str} {v : V} {A : Around} {E : Value → Shared → Prop}
theorem getattr_ok {b : Bool} {Q : Value → Shared → Prop} (I : Inv X pins σ H s) (e : H a = some (.ins C dx fs)) (c : Cls X.K C) (n : NoAttr X.K C f) (l : fs.lookup f = some v)
    (h : ∀ u s', Inv X pins σ H s' → RelV v u → Q u s') : wpAny (model X.prog X.w) A (getAttr (.ref a) f b) Q E s := by
  obtain ⟨mA, O, r, _, _, _⟩ := ins_get I.hok e
  obtain ⟨u, hu, ru⟩ := RelO.some_of (v := v) (o := mA f) (by rw [← l]; exact r f)
  exact get_map I.kIn O (c.get f) c.hd n hu (handed_of ru) (h u _ (I.tok _) ru)
theorem setattr_ok {y : V} {u : Value} {Q : Unit → Shared → Prop} (I : Inv X pins σ H s) (e : H a = some (.ins C dx fs)) (c : Cls X.K C) (n : NoAttr X.K C f) (hl : fs.length < 1000) (ry : RelV y u)
    (h : ∀ s', Inv X pins σ (upd H a (.ins C dx (putF f y fs))) s' → Q () s') : wpAny (model X.prog X.w) A (setAttr (.ref a) f u) Q E s := by
  obtain ⟨mA, O, r, wi, _, ho⟩ := ins_get I.hok e
  have hz : (fs.map (·.1)).length ≤ sizeLine := by rw [List.length_map, sizeLine_eq]; omega
  refine set_map I.kIn O c.sa c.po n.taker c.hd wi hz fun h' O' sb => h _ ?_
  have hd : ∃ o, h'.get? dx = some o := let ⟨o, _, _, e', _⟩ := O'.ns; ⟨o, e'⟩
  refine I.write (x := a) (e := dx) (by rw [e]; exact True.intro) (.inr ho) (fun b q hb z => (sb.2 b hb).trans z) hd ?_
  refine ⟨by rw [upd_ne O.ne]; exact ho, ?_, O.ne, O'.obj, _, O'.ns, fun g => ?_, fun g hg => ?_⟩
  · have := length_putF f y fs; omega
  · show RelO ((putF f y fs).lookup g) (if g = f then some u else mA g)
    rw [lookup_putF]
    by_cases q : g = f
    · rw [if_pos q, if_pos q]; exact ry
    · rw [if_neg q, if_neg q]; exact r g
  · by_cases q : g = f
    · rw [q]; exact (keys_putF f y fs).1
    · refine (keys_putF f y fs).2 g (wi g fun z => hg ?_)
      show (if g = f then some u else mA g) = none
      rw [if_neg q]; exact z
theorem Inv.made (I : Inv X pins σ H s) : Inv X pins σ (upd (upd H s.heap.objs.size (.own (s.heap.objs.size + 1))) (s.heap.objs.size + 1) (.ins C s.heap.objs.size []))
    { s with heap := (s.heap.push PySem.W.emptyDict).push (PySem.W.instObj C s.heap.objs.size) } := by
  have e1 : (s.heap.push PySem.W.emptyDict).get? s.heap.objs.size = some PySem.W.emptyDict := Heap.get?_push_size s.heap rfl
  have e2 : ((s.heap.push PySem.W.emptyDict).push (PySem.W.instObj C s.heap.objs.size)).get? (s.heap.objs.size + 1) = some (PySem.W.instObj C s.heap.objs.size) := by
    have := Heap.get?_push_size (s.heap.push PySem.W.emptyDict) (o := PySem.W.instObj C s.heap.objs.size) rfl
    rwa [Heap.size_push] at this
  have e3 : (s.heap.push PySem.W.emptyDict).Ns s.heap.objs.size (fun _ => none) := ⟨PySem.W.emptyDict, #[], _, e1, rfl, (fun e he => absurd he (by simp)), fun _ => rfl⟩
  have I1 := I.laid (a := s.heap.objs.size) (o := .own (s.heap.objs.size + 1)) (h' := s.heap.push PySem.W.emptyDict) (t' := s.toks) (fun b u q => Heap.get?_push_of_some _ q) (Nat.le_refl _) ⟨_, e1⟩
  refine I1.laid (a := s.heap.objs.size + 1) (o := .ins C s.heap.objs.size []) (t' := s.toks) (fun b u q => Heap.get?_push_of_some _ q) (Nat.le_of_eq (Heap.size_push _ _)) ?_
  have ne : s.heap.objs.size ≠ s.heap.objs.size + 1 := Nat.ne_of_lt (Nat.lt_succ_self _)
  refine ⟨by rw [upd_ne ne, upd_same], Nat.zero_le _, ne, e2, fun _ => none, (Heap.Ns1.of_empty e3).at fun o q => Heap.get?_push_of_some _ q, fun _ => True.intro, fun y hy => absurd rfl hy⟩
theorem attr_of {prog : Program} {w : World} {env : Env} {e : Expr} {f : Str} {pos : Pos} {s : Shared} {Q : Value → Shared → Prop} (hb : attributeBase e f env (eval e env) = eval e env)
    (h : wpAny (model prog w) A (eval e env) (fun o s₁ => wpAny (model prog w) A (getAttr o f true) Q E s₁) E s) : wpAny (model prog w) A (eval (.Attribute e f pos) env) Q E s :=
  Attribute_any_ h (by rw [arm_eval_Attribute, hb])
end
def tFld (K : PySem.W.Frag) (ta : TE) (f : Str) : TE := fun σ H Q => ta σ H fun x H1 => ∃ a C dx fs v, x = .ref a ∧ H1 a = some (.ins C dx fs) ∧ Cls K C ∧ NoAttr K C f ∧ fs.lookup f = some v ∧ Q v H1
def sFld (K : PySem.W.Frag) (ta tv : TE) (f : Str) : TS := fun D σ H => tv σ H fun y H1 => ta σ H1 fun x H2 => ∃ a C dx fs, x = .ref a ∧ H2 a = some (.ins C dx fs) ∧ Cls K C ∧ NoAttr K C f ∧ fs.length < 1000 ∧
  D.nx σ (upd H2 a (.ins C dx (putF f y fs)))
section
variable {X : Cx} {o e value : Expr} {f : Str} {pos pos' tpos : Pos} {ta tv : TE}
theorem pe_fld (he : PE X e ta) (hb : attributeBase e f X.env (eval e X.env) = eval e X.env) : PE X (.Attribute e f pos) (tFld X.K ta f) := by
  intro pins s σ H Q I h
  refine attr_of hb (thn (he pins s σ H _ I h) fun u s1 ⟨x, H1, I1, rx, a, C, dx, fs, v, ex, ea, c, n, l, q⟩ => ?_)
  subst ex
  obtain rfl : u = Value.ref a := rx
  exact getattr_ok I1 ea c n l fun u' s2 I2 ru => ⟨v, H1, I2, ru, q⟩
theorem ps_fld (ha : PE X o ta) (hv : PE X value tv) (hs : swapsWith value (some (.Attribute o f pos')) pos.line X.env = pure false) : PS X (.Assign [.Attribute o f pos'] value pos) (sFld X.K ta tv f) := by
  intro pins s σ H D I h
  refine plainObj_wpAny_Assign_Attribute (thn (hv pins s σ H _ I h) fun u s1 ⟨y, H1, I1, ry, q⟩ => thn (ha pins s1 σ H1 _ I1 q) fun ov s2 ⟨x, H2, I2, rx, a, C, dx, fs, ex, ea, c, n, l, q2⟩ => ?_) hs
  subst ex
  obtain rfl : ov = Value.ref a := rx
  exact setattr_ok I2 ea c n l ry fun s3 I3 => ⟨σ, _, I3, q2⟩
end
section
variable {X : Cx} {pins : List (Addr × Obj)} {σ : St} {H : Hp} {s : Shared} {A : Around} {E : Value → Shared → Prop} {Q : Value → Shared → Prop} {c : Value} {b : Bool}
inductive TyOf (K : PySem.W.Frag) (H : Hp) : V → Value → Prop where
  | non : TyOf K H .non (.type "NoneType")
  | bl (x : Bool) : TyOf K H (.bl x) (.type "bool")
  | int (i : Int) : TyOf K H (.int i) (.type "int")
  | str (x : Str) : TyOf K H (.str x) (.type "str")
  | flt (x : UInt64) : TyOf K H (.flt x) (.type "float")
  | lst {a : Addr} {xs : List V} (e : H a = some (.lst xs)) : TyOf K H (.ref a) (.type "list")
  | frz {a : Addr} {o : Obj} {xs : List V} (e : H a = some (.frz o (.lst xs))) : TyOf K H (.ref a) (.type "list")
  | tup {a : Addr} {xs : List V} (e : H a = some (.tup xs)) : TyOf K H (.ref a) (.type "tuple")
  | dK {a : Addr} {kvs : List (Key × V)} (e : H a = some (.dK kvs)) : TyOf K H (.ref a) (.type "dict")
  | dT {a : Addr} {kvs : List (List Key × V)} (e : H a = some (.dT kvs)) : TyOf K H (.ref a) (.type "dict")
  | ins {a C dx : Addr} {fs : List (Str × V)} (e : H a = some (.ins C dx fs)) (cl : Cls K C) (ha : PySem.W.findIn K (.ref C) "__class__" = some (some (.builtin "object.__class__")))
      (hn : PySem.W.specialIn K (.builtin "object.__class__") "__get__" = some (some (.builtin "getset_descriptor.__get__"))) (htk : PySem.W.takesIn K (.builtin "object.__class__") = some true)
      (hm : PySem.W.mroIn K C (.type "object") = some true) : TyOf K H (.ref a) (.ref C)
end
end L2
namespace L2
open PySem PySem.Spec PyProof.Rows
structure Room (k : Nat) (A : Around) : Prop where
  hd : A.handled = none
  dp : A.depth + 3 * k + 5 < recursionLimit
  un : A.units + 16 * k + 200 < cLine
theorem Room.mono {j k : Nat} {A : Around} (r : Room k A) (h : j ≤ k) : Room j A := ⟨r.hd, by have := r.dp; omega, by have := r.un; omega⟩
theorem Room.deeper {k : Nat} {A : Around} (r : Room (k + 1) A) (env : Env) : Room k (A.deeper env) :=
  ⟨r.hd, by have := r.dp; show A.depth + 1 + 3 * k + 5 < _; omega, by have := r.un; show A.units + 3 + 16 * k + 200 < _; omega⟩
theorem make_depth {A : Around} {C : Addr} {us : List Value} {kw : List (Str × Value)} : (A.under (.builtin "type.__call__" ⟨.ref C :: us, kw⟩)).depth = A.depth + 1 := by
  first | rfl | simp [Around.under, Code.weight, Code.isCreation, Code.isGuard, Code.isCaller, Code.frames, Code.isFrame, guardIds]
theorem make_units {A : Around} {C : Addr} {us : List Value} {kw : List (Str × Value)} : (A.under (.builtin "type.__call__" ⟨.ref C :: us, kw⟩)).units = A.units + 1 := by
  first | rfl | simp [Around.under, Code.cUnits, Code.frames, Code.isFrame]
theorem Room.make {k : Nat} {A : Around} (r : Room (k + 1) A) (C : Addr) (us : List Value) (kw : List (Str × Value)) : Room k (A.under (.builtin "type.__call__" ⟨.ref C :: us, kw⟩)) :=
  ⟨r.hd, by have := r.dp; rw [make_depth]; omega, by have := r.un; rw [make_units]; omega⟩
theorem Room.depth {k : Nat} {A : Around} (r : Room k A) : A.depth < recursionLimit := by have := r.dp; omega
theorem Room.units {k : Nat} {A : Around} (r : Room k A) : A.units + 64 < cLine := by have := r.un; omega
def tNil : TA := fun _ H Q => Q [] H
def tCons (ta : TE) (tr : TA) : TA := fun σ H Q => ta σ H fun x H1 => tr σ H1 fun xs H2 => Q (x :: xs) H2
section
variable {X : Cx} {e : Expr} {es : List Expr} {te : TE} {t : TA} {pos : Pos}
theorem pa_nil : PA X [] tNil := fun _ _ _ _ H Q I h => Calls.spliced_nil ⟨[], H, I, .nil, h⟩
theorem pa_cons (ha : PE X e te) (hr : PA X es t) (hs : starEach (e :: es) X.env = (false, eval e X.env) :: starEach es X.env := by rfl) : PA X (e :: es) (tCons te t) := by
  intro pos pins s σ H Q I h
  rw [hs]
  show wpAny _ _ (spliced ((false, eval e X.env) :: backTo pos (starEach es X.env))) _ _ s
  refine Calls.spliced_cons (thn (ha pins s σ H _ I h) fun u s1 ⟨x, H1, I1, r1, q1⟩ => ?_)
  exact thn (hr pos pins s1 σ H1 _ I1 q1) fun us s2 ⟨xs, H2, I2, r2, q2⟩ => ⟨x :: xs, H2, I2, .cons r1 r2, q2⟩
def tLst (t : TA) : TE := fun σ H Q => t σ H fun xs H1 => xs.length ≤ sizeLine ∧ ∀ p, H1 p = none → Q (.ref p) (upd H1 p (.lst xs))
theorem pe_lst (h : PA X es t) : PE X (.List es pos) (tLst t) := by
  intro pins s σ H Q I hq
  refine wpAny_List_spliced (thn (h pos pins s σ H _ I hq) fun us s1 ⟨xs, H1, I1, r, z, q⟩ => ⟨by rw [← r.length]; exact z, ?_⟩)
  have hf : H1 s1.heap.objs.size = none := I1.hok.fresh (Nat.le_refl _)
  refine ⟨.ref s1.heap.objs.size, upd H1 s1.heap.objs.size (.lst xs), I1.laid (t' := s1.toks) (fun b u e => Heap.get?_push_of_some _ e) (Nat.le_refl _) ?_, rfl, q _ hf⟩
  exact ⟨z, us, 0, r, Heap.get?_push_size _ rfl⟩
end
abbrev Sp := List V → Hp → VK → XK → Prop
abbrev CXT := List Env → Hp → Shared → XK → Value → Shared → Prop
structure Env0 (P : Program) (w : World) (K : PySem.W.Frag) (mg : Str → Option Value) (base : Heap) (A : Around) (outer : List Env) (s : Shared) (H : Hp) : Prop where
  frames : A.frames = some outer
  mod : Mod K mg base
  bs : ∀ b o, base.get? b = some o → s.heap.get? b = some o ∧ H b = none
  bsz : base.objs.size ≤ s.heap.objs.size
  funs : s.heap.FunFrames base outer
  frf : ∀ b ∈ frs outer, H b = none
  hok : HOk P w H s.heap
  bare : AllBare s.gens
def CE (outer : List Env) (P : Program) (w : World) (H : Hp) (s : Shared) (Q : VK) (u : Value) (s' : Shared) : Prop :=
  ∃ v H', s'.os = s.os ∧ AllBare s'.gens ∧ Un (frs outer) [] H H' s.heap s'.heap ∧ HOk P w H' s'.heap ∧ RelV v u ∧ Q v H'
def CR (CX : CXT) (outer : List Env) (P : Program) (w : World) (H : Hp) (s : Shared) (Q : VK) (E : XK) (r : Result) (s' : Shared) : Prop :=
  match r with
  | .ok (.ret u) => CE outer P w H s Q u s'
  | .ok _ => False
  | .error e => CX outer H s E e s'
structure FnOk (P : Program) (w : World) (K : PySem.W.Frag) (mg : Str → Option Value) (base : Heap) (CX : CXT) (k : Nat) (f : Addr) (fd : FuncData) (ps : List Str) (sp : Sp) : Prop where
  len : ∀ vs H Q E, sp vs H Q E → vs.length = ps.length
  run : ∀ (A : Around) (outer : List Env) (s : Shared) (H : Hp) (args : Args) (us : List Value) (vs : List V) (Q : VK) (E : XK), Room k A → Env0 P w K mg base A outer s H → BindsTo s fd args (ps.zip us) → Vals vs us → sp vs H Q E →
    codeAny (model P w) A (.call (.ref f) args) (CR CX outer P w H s Q E) s
theorem Env0.make {P : Program} {w : World} {K : PySem.W.Frag} {mg : Str → Option Value} {base : Heap} {A : Around} {outer : List Env} {s : Shared} {H : Hp} (e : Env0 P w K mg base A outer s H) (C : Addr) (us : List Value) (kw : List (Str × Value)) :
    Env0 P w K mg base (A.under (.builtin "type.__call__" ⟨.ref C :: us, kw⟩)) outer s H := ⟨by first | exact e.frames | (simpa [Around.under, Code.envs, Code.isFrame, pushEnvs] using e.frames), e.mod, e.bs, e.bsz, e.funs, e.frf, e.hok, e.bare⟩
section
variable {X : Cx} {pins : List (Addr × Obj)} {σ : St} {H : Hp} {s s' : Shared}
theorem Inv.env0 (I : Inv X pins σ H s) : Env0 X.prog X.w X.K X.mg X.base X.A X.stack s H :=
  ⟨I.ok.frames, I.ok.mod, I.bs, Nat.le_trans I.ok.bsz I.sz, I.stack, I.stkFree, I.hok, I.bare⟩
theorem Inv.after {Q : VK} {u : Value} (I : Inv X pins σ H s) (h : CE X.stack X.prog X.w H s Q u s') : EP X pins σ Q u s' := by
  obtain ⟨v, H', os, bare, un, hok, r, q⟩ := h
  obtain ⟨hh, g, d, t, os'⟩ := s'
  obtain rfl : os' = s.os := os
  exact ⟨v, H', I.call (h' := hh) (g' := g) (d' := d) (t' := t) (ch := []) un hok bare (fun b z => absurd z (by simp)), r, q⟩
end
def tCall (sp : Sp) (dvs : List V) (E : XK) (t : TA) : TE := fun σ H Q => t σ H fun vs H1 => sp (vs ++ dvs) H1 Q E
def tMake (C : Addr) (sp : Sp) (dvs : List V) (E : XK) (t : TA) : TE := fun σ H Q => t σ H fun vs H1 => ∀ x dx, H1 x = none → H1 dx = none → dx ≠ x →
  sp (.ref x :: (vs ++ dvs)) (upd (upd H1 dx (.own x)) x (.ins C dx [])) (fun v H2 => v = .non ∧ Q (.ref x) H2) E
def Binds (K : PySem.W.Frag) (fd : FuncData) (ps : List Str) (ds : List Value) : Prop :=
  ∀ (s : Shared) (us : List Value), K.In s.heap → (us ++ ds).length = ps.length → BindsTo s fd ⟨us, []⟩ (ps.zip (us ++ ds))
theorem Binds.all {K : PySem.W.Frag} {fd : FuncData} {ps : List Str} (h : ∀ us : List Value, us.length = ps.length → bindArgs fd ⟨us, []⟩ = pure (ps.zip us)) : Binds K fd ps [] := fun s us _ hl => by
  rw [List.append_nil] at hl ⊢
  exact .of_eq (h us hl)
def Passes (CX : CXT) (X : Cx) (E : XK) : Prop := ∀ (pins : List (Addr × Obj)) (σ : St) (H : Hp) (s : Shared) (e : Value) (s' : Shared), Inv X pins σ H s → CX X.stack H s E e s' → X.xe e s'
section
variable {X : Cx} {CX : CXT} {k : Nat} {f C : Addr} {fd : FuncData} {ps : List Str} {sp : Sp} {dvs : List V} {ds : List Value} {E : XK} {x m : Str} {p pos apos : Pos} {e o : Expr} {es : List Expr} {ta : TE} {t : TA}
theorem run_fn {pins : List (Addr × Obj)} {σ : St} {H : Hp} {s : Shared} {Q : VK} {us : List Value} {vs : List V} (F : FnOk X.prog X.w X.K X.mg X.base CX k f fd ps sp) (hr : Room k X.A) (hb : Binds X.K fd ps ds) (hd : Vals dvs ds) (hx : Passes CX X E)
    (I : Inv X pins σ H s) (r : Vals vs us) (h : sp (vs ++ dvs) H Q E) : wpAny (model X.prog X.w) X.A (call (.ref f) us) (EP X pins σ Q) X.xe s := by
  have r2 : Vals (vs ++ dvs) (us ++ ds) := r.append hd
  have hl : (us ++ ds).length = ps.length := by rw [← r2.length]; exact F.len _ _ _ _ h
  refine wpAny_call (codeAny_mono (F.run X.A X.stack s H ⟨us, []⟩ (us ++ ds) (vs ++ dvs) Q E hr I.env0 (hb s us I.kIn hl) r2 h) fun r s' hq => ?_)
  cases r with
  | error e => exact hx pins σ H s e s' I hq
  | ok fl =>
    cases fl with
    | ret u => exact I.after hq
    | next => exact False.elim hq
    | brk => exact False.elim hq
    | cont => exact False.elim hq
theorem pe_call (F : FnOk X.prog X.w X.K X.mg X.base CX k f fd ps sp) (hr : Room k X.A) (hg : Gl X x) (hm : X.mg x = some (.ref f)) (hk : PySem.W.keepIn X.K (.ref f) = true) (hb : Binds X.K fd ps ds) (hd : Vals dvs ds) (hx : Passes CX X E)
    (ha : PA X (e :: es) t) (hdb : (x == ("__debug__" : Str)) = false := by decide) (he : starEach (e :: es) X.env = (false, eval e X.env) :: starEach es X.env := by rfl) (hpl : (backTo pos (starEach es X.env)).any (·.1) = false := by rfl) :
    PE X (.Call (.Name x p) (e :: es) [] pos) (tCall sp dvs E t) := by
  intro pins s σ H Q I h
  refine wpAny_Call_Name_kw (ld_glob I hg hm ?_ hdb)
  refine PySem.W.callWith_K (h₀ := X.base) I.ok.mod.kin hk (thn (ha pos pins s σ H _ I h) fun us s1 ⟨vs, H1, I1, r, q⟩ => ⟨I1.kIn, ?_⟩) he hpl
  exact run_fn F hr hb hd hx I1 r q
structure Mk (K : PySem.W.Frag) (C f : Addr) : Prop where
  makes : PySem.W.makesIn K C = true
  init : PySem.W.findIn K (.ref C) "__init__" = some (some (.ref f))
  fn : PySem.W.isFn K (.ref f) = true
  kp : PySem.W.keepIn K (.ref C) = true
theorem run_make {pins : List (Addr × Obj)} {σ : St} {H : Hp} {s : Shared} {Q : VK} {us : List Value} {vs : List V} (M : Mk X.K C f) (F : FnOk X.prog X.w X.K X.mg X.base CX k f fd ps sp) (hr : Room (k + 1) X.A) (hb : Binds X.K fd ps ds) (hd : Vals dvs ds)
    (hx : Passes CX X E) (I : Inv X pins σ H s) (r : Vals vs us)
    (h : ∀ x dx, H x = none → H dx = none → dx ≠ x → sp (.ref x :: (vs ++ dvs)) (upd (upd H dx (.own x)) x (.ins C dx [])) (fun v H2 => v = .non ∧ Q (.ref x) H2) E) :
    wpAny (model X.prog X.w) X.A (call (.ref C) us) (EP X pins σ Q) X.xe s := by
  have hq := h (s.heap.objs.size + 1) s.heap.objs.size (I.hok.fresh (Nat.le_succ _)) (I.hok.fresh (Nat.le_refl _)) (Nat.ne_of_lt (Nat.lt_succ_self _))
  have I2 := Inv.made (C := C) I
  have r2 : Vals (V.ref (s.heap.objs.size + 1) :: (vs ++ dvs)) (Value.ref (s.heap.objs.size + 1) :: (us ++ ds)) := .cons rfl (r.append hd)
  have hl : (Value.ref (s.heap.objs.size + 1) :: us ++ ds).length = ps.length := by
    have e := r2.length
    rw [F.len _ _ _ _ hq] at e
    exact e.symm
  refine wpAny_call (make_map (f := f) I.kIn M.makes M.init (beq_iff_eq.mp M.fn) (codeAny_mono (F.run _ X.stack _ _ ⟨Value.ref (s.heap.objs.size + 1) :: us, []⟩ (Value.ref (s.heap.objs.size + 1) :: (us ++ ds)) _ _ E (hr.make C us [])
    (I2.env0.make C us []) (hb _ (Value.ref (s.heap.objs.size + 1) :: us) I2.kIn hl) r2 hq) fun r s' hq' => ?_))
  cases r with
  | error e => exact hx pins σ _ _ e s' I2 hq'
  | ok fl =>
    cases fl with
    | ret u =>
      obtain ⟨v, H', I3, rv, ev, q3⟩ := I2.after hq'
      subst ev
      exact ⟨rv, ⟨V.ref (s.heap.objs.size + 1), H', I3, rfl, q3⟩⟩
    | next => exact False.elim hq'
    | brk => exact False.elim hq'
    | cont => exact False.elim hq'
theorem pe_make (M : Mk X.K C f) (F : FnOk X.prog X.w X.K X.mg X.base CX k f fd ps sp) (hr : Room (k + 1) X.A) (hg : Gl X x) (hm : X.mg x = some (.ref C)) (hb : Binds X.K fd ps ds) (hd : Vals dvs ds) (hx : Passes CX X E)
    (ha : PA X (e :: es) t) (hdb : (x == ("__debug__" : Str)) = false := by decide) (he : starEach (e :: es) X.env = (false, eval e X.env) :: starEach es X.env := by rfl) (hpl : (backTo pos (starEach es X.env)).any (·.1) = false := by rfl) :
    PE X (.Call (.Name x p) (e :: es) [] pos) (tMake C sp dvs E t) := by
  intro pins s σ H Q I h
  refine wpAny_Call_Name_kw (ld_glob I hg hm ?_ hdb)
  refine PySem.W.callWith_K (h₀ := X.base) I.ok.mod.kin M.kp (thn (ha pos pins s σ H _ I h) fun us s1 ⟨vs, H1, I1, r, q⟩ => ⟨I1.kIn, ?_⟩) he hpl
  exact run_make M F hr hb hd hx I1 r q
end
section
variable {X : Cx} {CX : CXT} {k : Nat} {f C : Addr} {fd : FuncData} {ps ks : List Str} {sp : Sp} {E : XK} {x m : Str} {p pos apos kpos : Pos} {e o : Expr} {es : List Expr} {kws : List Keyword} {te ta : TE} {t tk : TA} {nm : Option Str}
structure KBinds (K : PySem.W.Frag) (fd : FuncData) (ps ks : List Str) (g : List Value → List Value → List Value) (gV : List V → List V → List V) : Prop where
  to : ∀ (s : Shared) (us ws : List Value), K.In s.heap → (g us ws).length = ps.length → BindsTo s fd ⟨us, ks.zip ws⟩ (ps.zip (g us ws))
  rel : ∀ {vs : List V} {us : List Value} {zs : List V} {ws : List Value}, Vals vs us → Vals zs ws → Vals (gV vs zs) (g us ws)
variable {g : List Value → List Value → List Value} {gV : List V → List V → List V}
end
structure FnScope (N P : List Str) (sc : Scope) : Prop where
  kind : sc.kind = .function
  co : sc.isCoroutine = false
  gen : sc.isGenerator = false
  nd : N.Nodup
  pre : N.take P.length = P
  par : ∀ x ∈ P, sc.names.lookup x = some .local ∨ sc.names.lookup x = some .cell
  nofree : ∀ y ∈ sc.names, y.2 ≠ .free
theorem bindL_out {kindOf : Str → Option NameKind} {x : Str} : ∀ {binds : List (Str × Value)} {m : Str → Option Value}, (∀ v, (x, v) ∉ binds) → bindL kindOf binds m x = m x
  | [], _, _ => rfl
  | (n, v) :: r, m, h => by
    unfold bindL
    rw [bindL_out fun w hw => h w (List.mem_cons_of_mem _ hw)]
    split
    · have : x ≠ n := by rintro rfl; exact h v List.mem_cons_self
      simp [this]
    · rfl
theorem bindC_out {kindOf : Str → Option NameKind} {x : Str} : ∀ {binds : List (Str × Value)} {m : Str → Option Value}, (∀ v, (x, v) ∉ binds) → bindC kindOf binds m x = m x
  | [], _, _ => rfl
  | (n, v) :: r, m, h => by
    unfold bindC
    rw [bindC_out fun w hw => h w (List.mem_cons_of_mem _ hw)]
    split
    · rfl
    · have : x ≠ n := by rintro rfl; exact h v List.mem_cons_self
      simp [this]
theorem bindL_get {kindOf : Str → Option NameKind} {x : Str} {v : Value} : ∀ {P : List Str} {vs : List Value} {i : Nat} {m : Str → Option Value}, P.Nodup → P[i]? = some x → vs[i]? = some v → kindOf x = some .local →
    bindL kindOf (P.zip vs) m x = some v
  | [], _, _, _, _, h, _, _ => by simp at h
  | _ :: _, [], _, _, _, _, h, _ => by simp at h
  | p :: P, w :: vs, 0, m, nd, h1, h2, hk => by
    simp at h1 h2; subst h1; subst h2
    show bindL kindOf ((p, w) :: P.zip vs) m p = _
    unfold bindL
    rw [bindL_out fun v hv => (List.nodup_cons.mp nd).1 (List.of_mem_zip hv).1, if_pos hk]
    simp
  | p :: P, w :: vs, i + 1, m, nd, h1, h2, hk => by
    show bindL kindOf ((p, w) :: P.zip vs) m x = _
    unfold bindL
    exact bindL_get (i := i) (List.nodup_cons.mp nd).2 (by simpa using h1) (by simpa using h2) hk
theorem bindC_get {kindOf : Str → Option NameKind} {x : Str} {v : Value} : ∀ {P : List Str} {vs : List Value} {i : Nat} {m : Str → Option Value}, P.Nodup → P[i]? = some x → vs[i]? = some v → kindOf x ≠ some .local →
    bindC kindOf (P.zip vs) m x = some v
  | [], _, _, _, _, h, _, _ => by simp at h
  | _ :: _, [], _, _, _, _, h, _ => by simp at h
  | p :: P, w :: vs, 0, m, nd, h1, h2, hk => by
    simp at h1 h2; subst h1; subst h2
    show bindC kindOf ((p, w) :: P.zip vs) m p = _
    unfold bindC
    rw [bindC_out fun v hv => (List.nodup_cons.mp nd).1 (List.of_mem_zip hv).1, if_neg hk]
    simp
  | p :: P, w :: vs, i + 1, m, nd, h1, h2, hk => by
    show bindC kindOf ((p, w) :: P.zip vs) m x = _
    unfold bindC
    exact bindC_get (i := i) (List.nodup_cons.mp nd).2 (by simpa using h1) (by simpa using h2) hk
def start (N : List Str) (vs : List V) : St := vs.map some ++ List.replicate (N.length - vs.length) none
def cxOf (CX : CXT) (P : Program) (w : World) (K : PySem.W.Frag) (mg : Str → Option Value) (base : Heap) (N : List Str) (qual : Str) (scope : Scope) (f : Addr) (cd : Value) (A : Around) (outer : List Env) (s : Shared) (H : Hp) (E : XK) : Cx where
  prog := P
  w := w
  K := K
  mg := mg
  base := base
  A := A.deeper (envOfC qual scope s.heap.objs.size f cd)
  N := N
  s_0 := s
  H_0 := H
  env := envOfC qual scope s.heap.objs.size f cd
  outer := outer
  stack := envOfC qual scope s.heap.objs.size f cd :: outer
  ex := []
  calm := true
  fn := fun _ => true
  pn := []
  xe := fun e s' => wpAny (model P w) (A.deeper (envOfC qual scope s.heap.objs.size f cd)) (leaving (envOfC qual scope s.heap.objs.size f cd) e) (fun _ s'' => CX outer H s E e s'') (fun e' s'' => CX outer H s E e' s'') s'
theorem cell_has {sc : Scope} {n : Nat} {x : Str} (h : sc.names.lookup x = some .cell) : ∃ c, (cellsFrom n sc.names []).lookup x = some c := by
  have q := PySem.W.cellsFrom_some sc.names n [] (.inl h)
  exact Option.isSome_iff_exists.mp q
theorem inv_start {CX : CXT} {P : Program} {w : World} {K : PySem.W.Frag} {mg : Str → Option Value} {base : Heap} {N ps : List Str} {qual : Str} {scope : Scope} {f : Addr} {cd : Value} {A : Around} {outer : List Env} {s s1 : Shared} {H : Hp} {E : XK} {us : List Value} {vs : List V}
    (S : FnScope N ps scope) (hd : A.handled = none) (e0 : Env0 P w K mg base A outer s H) (hl : vs.length = ps.length) (r : Vals vs us)
    (x : InCallC s s.heap.objs.size (bindL (envOfC qual scope s.heap.objs.size f cd).kindOf (ps.zip us) fun _ => none) (cellsFrom (s.heap.objs.size + 1) scope.names []) (bindC (envOfC qual scope s.heap.objs.size f cd).kindOf (ps.zip us) fun _ => none) s1) :
    Inv (cxOf CX P w K mg base N qual scope f cd A outer s H E) [] (start N vs) H s1 := by
  have hpl : ps.length ≤ N.length := by have := congrArg List.length S.pre; rw [List.length_take] at this; omega
  obtain ⟨h1, tk, rfl, hk⟩ := x.done
  have noA : ∀ b : Addr, b ∉ (cxOf CX P w K mg base N qual scope f cd A outer s H E).ex := fun b z => absurd (show b ∈ ([] : List Addr) from z) (by simp)
  refine ⟨⟨e0.mod, S.kind, rfl, rfl, Nat.le_refl _, fun y z c h1 h2 => ?_, fun y hy => ?_, fun y c _ h => ?_, fun _ => hd, Around.frames_deeper e0.frames, .inr ⟨rfl, rfl⟩, fun b z => absurd z (noA b), e0.bs, e0.bsz, fun b _ _ => noA b, fun b z => absurd z (noA b), e0.funs, e0.frf⟩,
    rfl, e0.bare, Un.kept hk, ⟨_, x.toInCall.ns, fun i y v h1 h2 h3 => ?_⟩, fun y c h => ⟨_, x.cell y c h⟩, e0.hok.fresh (Nat.le_refl _), fun y c h => ?_, fun p hp => absurd (show p ∈ ([] : List (Addr × Obj)) from hp) (by simp), e0.hok.kept hk, ?_⟩
  · exact name_of_addr x.apart (PySem.mem_of_lookup h1) (PySem.mem_of_lookup h2)
  · have hy : scope.names.lookup y = some .cell ∨ scope.names.lookup y = some .free := hy
    rcases hy with hy | hy
    · exact cell_has hy
    · exact absurd rfl (S.nofree _ (PySem.mem_of_lookup hy))
  · exact Nat.le_of_lt (x.above y c (PySem.mem_of_lookup h))
  · have hi : i < vs.length := by
      unfold start at h2
      by_cases hi : i < vs.length
      · exact hi
      · rw [List.getElem?_append_right (by simpa using hi)] at h2
        rw [List.getElem?_replicate] at h2
        split at h2 <;> cases h2
    have ha : vs[i]? = some v := by
      unfold start at h2
      rw [List.getElem?_append_left (by simpa using hi), List.getElem?_map] at h2
      cases e : vs[i]? with
      | none => rw [e] at h2; cases h2
      | some a => rw [e] at h2; cases h2; rfl
    obtain ⟨u, hu, rv⟩ := r.get ha
    have hp : ps[i]? = some y := by
      rw [← S.pre, List.getElem?_take_of_lt (by omega)]; exact h1
    have ndP : ps.Nodup := by rw [← S.pre]; exact S.nd.sublist (List.take_sublist _ _)
    refine ⟨u, rv, ?_⟩
    rcases S.par y (List.mem_of_getElem? hp) with k | k
    · exact .inl ⟨k, bindL_get ndP hp hu k⟩
    · obtain ⟨c, e⟩ := cell_has (n := s.heap.objs.size + 1) k
      refine .inr ⟨.inl k, c, e, ?_⟩
      have q := x.cell y c e
      rw [bindC_get ndP hp hu (by show scope.names.lookup y ≠ _; rw [k]; decide)] at q
      exact q
  · exact e0.hok.fresh (Nat.le_of_lt (x.above y c (PySem.mem_of_lookup h)))
  · unfold start
    show _ = N.length
    rw [List.length_append, List.length_map, List.length_replicate]
    omega
theorem fn_of {CX : CXT} {P : Program} {w : World} {K : PySem.W.Frag} {mg : Str → Option Value} {base : Heap} {k : Nat} {f : Addr} {name qual : Str} {params : Arguments} {body : List Stmt} {scope : Scope} {dV kV doc pm cdv ct oc : Value} {an od : Option Addr}
    {osl : Array (Option Value)} {N ps : List Str} {sp : Sp} (lk : K.lookup f = some ⟨oc, od, .func (PySem.W.fnOf name qual params body scope dV kV doc pm an cdv ct), osl⟩) (hcd : PySem.W.codeIn K cdv qual = true) (S : FnScope N ps scope)
    (len : ∀ vs H Q E, sp vs H Q E → vs.length = ps.length)
    (hbody : ∀ (A : Around) (outer : List Env) (s : Shared) (H : Hp) (vs : List V) (Q : VK) (E : XK), Room k (A.deeper (envOfC qual scope s.heap.objs.size f cdv)) → sp vs H Q E →
      ∃ t, PSs (cxOf CX P w K mg base N qual scope f cdv A outer s H E) body t ∧ t { nx := fun _ H' => Q .non H', rt := Q } (start N vs) H) :
    FnOk P w K mg base CX (k + 1) f (PySem.W.fnOf name qual params body scope dV kV doc pm an cdv ct) ps sp := by
  refine ⟨len, fun A outer s H args us vs Q E hr e0 hb r hsp => ?_⟩
  have hl := len _ _ _ _ hsp
  have KX : K.In s.heap := e0.mod.kin.keeps fun b o e => (e0.bs b o e).1
  have lim : s.heap.NoLimit := e0.mod.nolimit.keeps fun b o e => (e0.bs b o e).1
  have hkind : ∀ y ∈ ps.zip us, scope.names.lookup y.1 = some .local ∨ (scope.names.lookup y.1 = some .cell ∧ ((cellsFrom (s.heap.objs.size + 1) scope.names []).lookup y.1).isSome = true) := fun ⟨n, v⟩ hy => by
    rcases S.par n (List.of_mem_zip hy).1 with q | q
    · exact .inl q
    · exact .inr ⟨q, PySem.W.cellsFrom_some _ _ _ (.inl q)⟩
  refine codeAny_call_function hr.depth (KX _ _ lk) rfl S.co S.gen rfl (PySem.W.codeRec_of KX hcd) (hb _ _ _ _ ?_)
  refine wpAny_newFunctionEnv_cells S.kind hkind fun env he s1 x => ?_
  subst he
  refine ⟨lim.keeps x.toInCall.keep, codeAny_func ?_⟩
  obtain ⟨t, ht, hq⟩ := hbody A outer s H vs Q E (hr.deeper _) hsp
  have I : Inv (cxOf CX P w K mg base N qual scope f cdv A outer s H E) [] (start N vs) H s1 := inv_start S hr.hd e0 hl r x
  refine wpAny_mono (ht [] s1 (start N vs) H _ I hq) (fun fl s' hs => ?_) fun e s' hs => hs
  have fin : ∀ {σ' : St} {H' : Hp} {v : V} {u : Value}, Inv (cxOf CX P w K mg base N qual scope f cdv A outer s H E) [] σ' H' s' → RelV v u → Q v H' → CE outer P w H s Q u s' :=
    fun {σ' H' v u} J rv q => ⟨v, H', J.os, J.bare, J.base, J.hok, rv, q⟩
  cases fl with
  | ret u =>
    obtain ⟨v, σ', H', J, rv, q⟩ := hs
    exact fin J rv q
  | next =>
    obtain ⟨σ', H', J, q⟩ := hs
    exact fin (v := V.non) (u := Value.none) J rfl q
  | brk =>
    obtain ⟨_, _, _, q⟩ := hs
    exact False.elim q
  | cont =>
    obtain ⟨_, _, _, q⟩ := hs
    exact False.elim q
end L2
namespace L2
open PySem PySem.Spec PyProof.Rows
section
variable {X : Cx} {x : Str} {p pos : Pos} {e : Expr} {es : List Expr} {t : TA} {id T : String} {r : List V → Hp → VK → Prop}
def tCB (r : List V → Hp → VK → Prop) (t : TA) : TE := fun σ H Q => t σ H fun vs H1 => r vs H1 Q
theorem pe_callB (hc : CallR X (.builtin id) r) (hg : Gl X x) (hm : X.mg x = none) (hv : bootBuiltins x = some (.builtin id)) (ha : PA X (e :: es) t) (hn : x ≠ "__name__" := by decide) (hdb : (x == ("__debug__" : Str)) = false := by decide)
    (he : starEach (e :: es) X.env = (false, eval e X.env) :: starEach es X.env := by rfl) (hpl : (backTo pos (starEach es X.env)).any (·.1) = false := by rfl) : PE X (.Call (.Name x p) (e :: es) [] pos) (tCB r t) := by
  intro pins s σ H Q I h
  refine wpAny_Call_Name_kw (ld_blt I hg hm hv ?_ hn hdb)
  exact PyProof.Rows.callWith_builtin1 (thn (ha pos pins s σ H _ I h) fun us s1 ⟨vs, H1, I1, r1, q1⟩ => hc pins s1 σ H1 vs us Q I1 r1 q1) he hpl
theorem pe_callTy (hc : CallR X (.type T) r) (hg : Gl X x) (hm : X.mg x = none) (hv : bootBuiltins x = some (.type T)) (ha : PA X (e :: es) t) (hn : x ≠ "__name__" := by decide) (hdb : (x == ("__debug__" : Str)) = false := by decide)
    (he : starEach (e :: es) X.env = (false, eval e X.env) :: starEach es X.env := by rfl) (hpl : (backTo pos (starEach es X.env)).any (·.1) = false := by rfl) : PE X (.Call (.Name x p) (e :: es) [] pos) (tCB r t) := by
  intro pins s σ H Q I h
  refine wpAny_Call_Name_kw (ld_blt I hg hm hv ?_ hn hdb)
  exact PyProof.Rows.callWith_type1 (thn (ha pos pins s σ H _ I h) fun us s1 ⟨vs, H1, I1, r1, q1⟩ => hc pins s1 σ H1 vs us Q I1 r1 q1) he hpl
end
end L2
namespace HT
open PySem PyProof.Rows
section
open PySem.SeqAt
open PySem.AutoSeq1 (wpAny_loadPart')
open PySem.MeetsSeq PySem.MeetsSeq2 PySem.MeetsSeq3
end
section
variable {prog : Program} {w : World} {A : Around} {E : Value → Shared → Prop} {s : Shared}
def sIx (n d : Nat) : Option Int → Nat
  | none => d
  | some v => if v < 0 then (v + (n : Int)).toNat else min v.toNat n
theorem sIx_none (n d : Nat) : sIx n d none = d := rfl
theorem sIx_nat (n d k : Nat) : sIx n d (some (k : Int)) = min k n := by
  show (if (k : Int) < 0 then ((k : Int) + (n : Int)).toNat else min (k : Int).toNat n) = min k n
  rw [if_neg (by omega), Int.toNat_natCast]
end
end HT
namespace L2
open PySem PySem.Spec PyProof.Rows
abbrev TO := St → Hp → (Option Int → Hp → Prop) → Prop
def PO (X : Cx) (e : Option Expr) (t : TO) : Prop :=
  ∀ (pins : List (Addr × Obj)) (s : Shared) (σ : St) (H : Hp) (Q : Option Int → Hp → Prop), Inv X pins σ H s → t σ H Q →
    wpAny (model X.prog X.w) X.A (evalPart e X.env) (fun u s' => ∃ o H', Inv X pins σ H' s' ∧ IsPart u o ∧ Q o H') X.xe s
def tNoPart : TO := fun _ H Q => Q none H
def tPart (t : TE) : TO := fun σ H Q => t σ H fun x H1 => ∃ i, x = .int i ∧ Q (some i) H1
section
variable {X : Cx} {e : Expr} {te : TE} {lo hi : Option Expr} {tl th : TO} {pos p2 : Pos}
theorem po_none : PO X none tNoPart := by
  intro pins s σ H Q I h
  rw [evalPart_none]
  exact wpAny_pure ⟨none, H, I, .none, h⟩
theorem po_some (h : PE X e te) : PO X (some e) (tPart te) := by
  intro pins s σ H Q I hw
  rw [evalPart_some]
  refine thn (h pins s σ H _ I hw) fun u s1 ⟨x, H1, I1, r1, q1⟩ => ?_
  obtain ⟨i, rfl, q⟩ := q1
  obtain ⟨t, rfl⟩ := r1
  exact ⟨some i, H1, I1, .int i t, q⟩
def SlR (X : Cx) (r : V → Option Int → Option Int → Hp → VK → Prop) : Prop :=
  ∀ (pins : List (Addr × Obj)) (s : Shared) (σ : St) (H : Hp) (x : V) (v vl vu : Value) (lo hi : Option Int) (sl : Addr) (Q : VK), Inv X pins σ H s → RelV x v → s.heap.IsSliceOf sl vl vu .none → IsPart vl lo → IsPart vu hi → r x lo hi H Q →
    ∃ T id, typeLookup (.type T) "__getitem__" = pure (some (.builtin id)) ∧ s.TypeIs v T ∧ wpAny (model X.prog X.w) X.A (getItem v (.ref sl)) (EP X pins σ Q) X.xe s
def tSl (r : V → Option Int → Option Int → Hp → VK → Prop) (te : TE) (tl th : TO) : TE := fun σ H Q => te σ H fun x H1 => tl σ H1 fun l H2 => th σ H2 fun u H3 => r x l u H3 Q
theorem pe_slice {r : V → Option Int → Option Int → Hp → VK → Prop} (hr : SlR X r) (he : PE X e te) (hl : PO X lo tl) (hu : PO X hi th) : PE X (.Subscript e (.Slice lo hi none p2) pos) (tSl r te tl th) := by
  intro pins s σ H Q I h
  refine Subscript_ (thn (he pins s σ H _ I h) fun v s1 ⟨x, H1, I1, r1, q1⟩ => ?_)
  refine wpAny_Slice (thn (hl pins s1 σ H1 _ I1 q1) fun vl s2 ⟨l, H2, I2, pl, q2⟩ => thn (hu pins s2 σ H2 _ I2 q2) fun vu s3 ⟨u, H3, I3, pu, q3⟩ => ?_)
  rw [evalPart_none]
  refine wpAny_pure ?_
  have I4 : Inv X pins σ H3 { s3 with heap := s3.heap.push { cls := .type "slice", data := .fields #[vl, vu, .none] } } := I3.kept (t' := s3.toks) fun b ob q => Heap.get?_push_of_some _ q
  obtain ⟨T, id, hT, ht, hg⟩ := hr pins { s3 with heap := s3.heap.push { cls := .type "slice", data := .fields #[vl, vu, .none] } } σ H3 x v vl vu l u s3.heap.objs.size Q I4 r1 (Heap.IsSliceOf.new ..) pl pu q3
  show wpAny (model X.prog X.w) X.A (subscriptTail e (.Slice lo hi none p2) v (.ref s3.heap.objs.size)) (EP X pins σ Q) X.xe { s3 with heap := s3.heap.push { cls := .type "slice", data := .fields #[vl, vu, .none] } }
  exact tail_any (ops := [.ref s3.heap.objs.size, v]) ht hT hg (by with_unfolding_all rfl)
def cutV (xs : List V) (lo hi : Option Int) : List V := (xs.drop (HT.sIx xs.length 0 lo)).take (HT.sIx xs.length xs.length hi - HT.sIx xs.length 0 lo)
theorem cutV_length (xs : List V) (lo hi : Option Int) : (cutV xs lo hi).length ≤ xs.length := by
  unfold cutV
  rw [List.length_take, List.length_drop]
  omega
end
end L2
namespace L2
open PySem PySem.Spec PyProof.Rows
def ixN (n : Nat) (i : Int) : Option Nat := if 0 ≤ i then (if i < n then some i.toNat else none) else if -(n : Int) ≤ i then some (i + n).toNat else none
def atI {α : Type} (xs : List α) (i : Int) : Option α := (ixN xs.length i).bind fun j => xs[j]?
theorem ixN_seq {n : Nat} {i : Int} {j : Nat} (h : ixN n i = some j) : seqIndex? i n = some j ∧ j < n ∧ -(n : Int) ≤ i ∧ i < n := by
  unfold ixN at h
  by_cases h0 : 0 ≤ i
  · rw [if_pos h0] at h
    by_cases h1 : i < n
    · rw [if_pos h1] at h
      have e : i.toNat = j := Option.some.inj h
      exact ⟨by rw [seqIndex_of h0 h1, e], by omega, by omega, h1⟩
    · rw [if_neg h1] at h; cases h
  · rw [if_neg h0] at h
    by_cases h1 : -(n : Int) ≤ i
    · rw [if_pos h1] at h
      have e : (i + n).toNat = j := Option.some.inj h
      exact ⟨by rw [seqIndex_neg (by omega) h1, e], by omega, h1, by omega⟩
    · rw [if_neg h1] at h; cases h
theorem atI_get {α : Type} {xs : List α} {i : Int} {v : α} (h : atI xs i = some v) : ∃ j, seqIndex? i xs.length = some j ∧ xs[j]? = some v ∧ j < xs.length ∧ -(xs.length : Int) ≤ i ∧ i < xs.length := by
  unfold atI at h
  cases e : ixN xs.length i with
  | none => rw [e] at h; cases h
  | some j =>
    rw [e] at h
    obtain ⟨h1, h2, h3, h4⟩ := ixN_seq e
    exact ⟨j, h1, h, h2, h3, h4⟩
theorem atI_nat {α : Type} {xs : List α} {j : Nat} {v : α} (h : xs[j]? = some v) : atI xs (j : Int) = some v := by
  have hj : j < xs.length := (List.getElem?_eq_some_iff.mp h).1
  have e : ixN xs.length (j : Int) = some j := by
    unfold ixN
    rw [if_pos (by omega), if_pos (by omega)]; simp
  unfold atI; rw [e]; exact h
def PlainIx (b : Expr) : Prop := ∀ o i, subscripted b false o i = operate [o, i] (getItem o i)
def IxR (X : Cx) (r : R2) : Prop :=
  ∀ (value slice : Expr) (pins : List (Addr × Obj)) (s : Shared) (σ : St) (H : Hp) (x y : V) (v u : Value) (Q : VK), Inv X pins σ H s → RelV x v → RelV y u → r x y H Q →
    subscripted slice false v u = operate [v, u] (getItem v u) → wpAny (model X.prog X.w) X.A (subscriptTail value slice v u) (EP X pins σ Q) X.xe s
def MtR (X : Cx) (id : String) (r : V → List V → Hp → VK → Prop) : Prop :=
  ∀ (pins : List (Addr × Obj)) (s : Shared) (σ : St) (H : Hp) (x : V) (xs : List V) (v : Value) (us : List Value) (Q : VK), Inv X pins σ H s → RelV x v → Vals xs us → r x xs H Q →
    wpAny (model X.prog X.w) X.A (call (.builtin id) (v :: us)) (EP X pins σ Q) X.xe s
section
variable {X : Cx} {a b : Expr} {ta tb : TE} {pos : Pos}
theorem pe_ix {r : R2} (hr : IxR X r) (ha : PE X a ta) (hb : PE X b tb) (hs : PlainIx b) : PE X (.Subscript a b pos) (tOp r ta tb) := by
  intro pins s σ H Q I h
  exact Subscript_ (binT ha hb I h fun v u s2 x y H2 I2 rx ry q => hr a b pins s2 σ H2 x y v u Q I2 rx ry q (hs _ _))
def rIxL (K : PySem.W.Frag) : R2 := fun x y H Q => ∃ p xs i v, x = .ref p ∧ y = .int i ∧ SqL K H p xs ∧ atI xs i = some v ∧ Q v H
def rIxT (K : PySem.W.Frag) : R2 := fun x y H Q => ∃ p xs i v, x = .ref p ∧ y = .int i ∧ SqT K H p xs ∧ atI xs i = some v ∧ Q v H
theorem ix_list : IxR X (rIxL X.K) := by
  intro value slice pins s σ H x y v u Q I rx ry h hs
  obtain ⟨p, xs, i, z, rfl, rfl, hq, he, q⟩ := h
  cases rx
  obtain ⟨t, rfl⟩ := ry
  obtain ⟨its, r, pl, hz⟩ := I.list hq
  obtain ⟨j, h1, h2, h3, h4, h5⟩ := atI_get he
  obtain ⟨w, ew, rw'⟩ := r.get h2
  have hl := r.length
  have hn := line63
  have fin : EP X pins σ Q w s := ⟨z, H, I, rw', q⟩
  by_cases h0 : 0 ≤ i
  · have hj : i.toNat = j := by
      rw [seqIndex_of h0 h5] at h1
      exact Option.some.inj h1
    exact item_listR pl.isList h0 (by omega) (by rw [hj]; simpa using ew) fin hs
  · have hj : (i + (its.toArray.size : Int)).toNat = j := by
      rw [seqIndex_neg (by omega) h4] at h1
      rw [List.size_toArray, ← hl]
      exact Option.some.inj h1
    exact subscriptTail_builtinR (x := w) pl.isList.typeIs slot_list_getitem.lookup
      (wpAny_getItem_list_neg (Q := fun r s' => r = w ∧ EP X pins σ Q r s') pl.isList (by omega) (by rw [List.size_toArray] <;> omega) (by omega) (by rw [hj]; simpa using ew) ⟨rfl, fin⟩) hs
theorem ix_tup : IxR X (rIxT X.K) := by
  intro value slice pins s σ H x y v u Q I rx ry h hs
  obtain ⟨p, xs, i, z, rfl, rfl, hq, he, q⟩ := h
  cases rx
  obtain ⟨t, rfl⟩ := ry
  obtain ⟨its, r, pl, hz⟩ := I.tuple hq
  obtain ⟨j, h1, h2, h3, h4, h5⟩ := atI_get he
  obtain ⟨w, ew, rw'⟩ := r.get h2
  have hl := r.length
  have hn := line63
  have fin : EP X pins σ Q w s := ⟨z, H, I, rw', q⟩
  exact subscriptTail_builtinR (x := w) pl.typeIs slot_tuple_getitem.lookup
    (getItem_tuple (j := j) (Q := fun r s' => r = w ∧ EP X pins σ Q r s') pl (by omega) (by omega) (by rw [List.size_toArray, ← hl]; exact h1) (by simpa using ew) ⟨rfl, fin⟩) hs
theorem mapSeq_set (its : List Value) (n j : Nat) (u : Value) : Obj.mapSeq (·.setIfInBounds j u) { cls := .type "list", data := .seq its.toArray n } = { cls := .type "list", data := .seq (its.set j u).toArray n } := by
  simp [Obj.mapSeq]
theorem Inv.lst {pins : List (Addr × Obj)} {σ : St} {H : Hp} {s : Shared} {p : Addr} {xs : List V} (I : Inv X pins σ H s) (h : H p = some (.lst xs)) :
    ∃ (its : List Value) (n : Nat), Vals xs its ∧ s.heap.get? p = some { cls := .type "list", data := .seq its.toArray n } ∧ xs.length ≤ sizeLine := by
  obtain ⟨z, its, n, r, e⟩ := I.hok p _ h
  exact ⟨its, n, r, e, z⟩
theorem Inv.lstUpd {pins : List (Addr × Obj)} {σ : St} {H : Hp} {s : Shared} {p : Addr} {xs ys : List V} {its its' : List Value} {n n' : Nat} {f : Obj → Obj} (I : Inv X pins σ H s) (h : H p = some (.lst xs))
    (ho : s.heap.get? p = some { cls := .type "list", data := .seq its.toArray n }) (hf : f { cls := .type "list", data := .seq its.toArray n } = { cls := .type "list", data := .seq its'.toArray n' }) (r : Vals ys its') (hz : ys.length ≤ sizeLine) (t : Nat) :
    Inv X pins σ (upd H p (.lst ys)) { s with heap := s.heap.update p f, toks := t } := by
  have e : (s.heap.update p f).get? p = some { cls := .type "list", data := .seq its'.toArray n' } := by
    rw [Heap.get?_update_self f ho (by rw [hf] <;> rfl), hf]
  refine I.write (x := p) (e := p) (by rw [h]; trivial) (.inl rfl) (fun b u hb q => (Heap.get?_update_other _ _ (Ne.symm hb)).trans q) ⟨_, e⟩ ?_
  exact ⟨hz, its', n', r, e⟩
def rSetL : V → V → V → Hp → (Hp → Prop) → Prop := fun o i v H Q => ∃ p xs k j, o = .ref p ∧ i = .int k ∧ H p = some (.lst xs) ∧ ixN xs.length k = some j ∧ Q (upd H p (.lst (xs.set j v)))
theorem set_list : PSet X rSetL := by
  intro pins s σ H o i v ov iv u Q I ro ri rv h
  obtain ⟨p, xs, k, j, rfl, rfl, hp, hj, q⟩ := h
  cases ro
  obtain ⟨t, rfl⟩ := ri
  obtain ⟨its, n, r, ho, hz⟩ := I.lst hp
  obtain ⟨h1, h2, h3, h4⟩ := ixN_seq hj
  have hl := r.length
  have hn := line63
  have I' : Inv X pins σ (upd H p (.lst (xs.set j v))) { s with heap := s.heap.update p (Obj.mapSeq (·.setIfInBounds j u)) } :=
    I.lstUpd hp ho (mapSeq_set its n j u) (r.set rv j) (by rw [List.length_set]; exact hz) s.toks
  by_cases h0 : 0 ≤ k
  · have hk : k.toNat = j := by
      rw [seqIndex_of h0 h4] at h1
      exact Option.some.inj h1
    exact PySem.W.ki_setAt ho h0 (by omega) (by rw [List.size_toArray, ← hl]; exact h4) (by rw [hk]; exact ⟨_, I', q⟩)
  · have hk : (k + (its.toArray.size : Int)).toNat = j := by
      rw [seqIndex_neg (by omega) h3] at h1
      rw [List.size_toArray, ← hl]
      exact Option.some.inj h1
    exact PySem.W.ki_setBack ho (by omega) (by rw [List.size_toArray, ← hl]; exact h3) (by omega) (by rw [hk]; exact ⟨_, I', q⟩)
theorem slice_bounds (lo hi : Option Int) (n : Nat) : (sliceBounds lo hi none n).1 = ((HT.sIx n 0 lo : Nat) : Int) ∧ (sliceBounds lo hi none n).2.1 = ((HT.sIx n n hi : Nat) : Int) ∧ (sliceBounds lo hi none n).2.2 = 1 := by
  refine ⟨?_, ?_, rfl⟩
  · cases lo with
    | none => simp [sliceBounds, HT.sIx]
    | some i =>
      simp only [sliceBounds, HT.sIx, Option.getD_none, show (1 : Int) > 0 by decide, if_true]
      by_cases h : i < 0
      · simp only [h, if_true] <;> omega
      · simp only [h, if_false] <;> omega
  · cases hi with
    | none => simp [sliceBounds, HT.sIx]
    | some i =>
      simp only [sliceBounds, HT.sIx, Option.getD_none, show (1 : Int) > 0 by decide, if_true]
      by_cases h : i < 0
      · simp only [h, if_true] <;> omega
      · simp only [h, if_false] <;> omega
theorem slicePick_cut (its : List Value) (lo hi : Option Int) : slicePick its.toArray lo hi none = ((its.drop (HT.sIx its.length 0 lo)).take (HT.sIx its.length its.length hi - HT.sIx its.length 0 lo)).toArray := by
  obtain ⟨h1, h2, h3⟩ := slice_bounds lo hi its.toArray.size
  unfold slicePick
  rw [h1, h2, h3]
  simp only [sliceRange_one, pick_run, List.size_toArray] <;> rfl
def rSlL (K : PySem.W.Frag) : V → Option Int → Option Int → Hp → VK → Prop := fun x lo hi H Q => ∃ a xs, x = .ref a ∧ SqL K H a xs ∧ ∀ p, H p = none → Q (.ref p) (upd H p (.lst (cutV xs lo hi)))
theorem sl_list : SlR X (rSlL X.K) := by
  intro pins s σ H x v vl vu lo hi sl Q I rx hs pl pu h
  obtain ⟨a, xs, rfl, hx, q⟩ := h
  cases rx
  obtain ⟨its, r, ht, hz⟩ := I.list hx
  have hlen := r.length
  refine ⟨"list", _, slot_list_getitem.lookup, ht.isList.typeIs, ?_⟩
  refine wpAny_getItem_list_slice ht.isList hs pl pu .none (by simp) ?_ (by rw [List.size_toArray] <;> omega)
  rw [slicePick_cut, ← hlen]
  refine ⟨.ref s.heap.objs.size, _, I.laid (t' := s.toks) (o := .lst (cutV xs lo hi)) (fun b ob q => Heap.get?_push_of_some _ q) (Nat.le_refl _) ?_, rfl, q _ (I.hok.fresh (Nat.le_refl _))⟩
  exact ⟨Nat.le_trans (cutV_length xs lo hi) hz, _, 0, (r.drop (HT.sIx xs.length 0 lo)).take (HT.sIx xs.length xs.length hi - HT.sIx xs.length 0 lo), Heap.get?_push_size _ rfl⟩
def flatV : V → Bool
  | .non => true
  | .bl _ => true
  | .int _ => true
  | .str _ => true
  | _ => false
def eqV : V → V → Bool
  | .non, .non => true
  | .bl a, .bl b => a == b
  | .bl a, .int b => (if a then 1 else 0) == b
  | .int a, .bl b => a == (if b then 1 else 0)
  | .int a, .int b => a == b
  | .str a, .str b => a == b
  | _, _ => false
theorem eqAt_V {A : Around} {s : Shared} {y x : V} {u v : Value} (ry : RelV y u) (rx : RelV x v) (fy : flatV y = true) (fx : flatV x = true) : SeqAt.EqAt A s u v (eqV y x) := by
  cases y with
  | non =>
    cases ry
    cases x with
    | non => cases rx; exact SeqAt.EqAt.same _
    | bl b => cases rx; exact SeqAt.EqAt.none_bool b
    | int b => obtain ⟨t, rfl⟩ := rx; exact SeqAt.EqAt.none_int b t
    | str b => obtain ⟨t, rfl⟩ := rx; exact SeqAt.EqAt.none_str b t
    | _ => exact absurd (show false = true from fx) Bool.false_ne_true
  | bl a =>
    cases ry
    cases x with
    | non => cases rx; exact SeqAt.EqAt.bool_none a
    | bl b => cases rx; exact SeqAt.EqAt.bool_bool a b
    | int b => obtain ⟨t, rfl⟩ := rx; exact SeqAt.EqAt.bool_int a b t
    | str b => obtain ⟨t, rfl⟩ := rx; exact SeqAt.EqAt.bool_str a b t
    | _ => exact absurd (show false = true from fx) Bool.false_ne_true
  | int a =>
    obtain ⟨t', rfl⟩ := ry
    cases x with
    | non => cases rx; exact SeqAt.EqAt.int_none a t'
    | bl b => cases rx; exact SeqAt.EqAt.int_bool a t' b
    | int b => obtain ⟨t, rfl⟩ := rx; exact SeqAt.EqAt.int_int a t' b t
    | str b => obtain ⟨t, rfl⟩ := rx; exact SeqAt.EqAt.int_str a t' b t
    | _ => exact absurd (show false = true from fx) Bool.false_ne_true
  | str a =>
    obtain ⟨t', rfl⟩ := ry
    cases x with
    | non => cases rx; exact SeqAt.EqAt.str_none a t'
    | bl b => cases rx; exact SeqAt.EqAt.str_bool a t' b
    | int b => obtain ⟨t, rfl⟩ := rx; exact SeqAt.EqAt.str_int a t' b t
    | str b => obtain ⟨t, rfl⟩ := rx; exact SeqAt.EqAt.str_str a t' b t
    | _ => exact absurd (show false = true from fx) Bool.false_ne_true
  | _ => exact absurd (show false = true from fy) Bool.false_ne_true
def eqU (x : V) (u : Value) : Bool := match u with
  | .none => eqV .non x
  | .bool b => eqV (.bl b) x
  | .int i _ => eqV (.int i) x
  | .str z _ => eqV (.str z) x
  | _ => false
theorem eqU_of {x y : V} {u : Value} (r : RelV y u) (f : flatV y = true) : eqU x u = eqV y x := by
  cases y with
  | non => cases r; rfl
  | bl b => cases r; rfl
  | int i => obtain ⟨t, rfl⟩ := r; rfl
  | str z => obtain ⟨t, rfl⟩ := r; rfl
  | _ => exact absurd (show false = true from f) Bool.false_ne_true
theorem any_eqU {x : V} : ∀ {xs : List V} {us : List Value}, Vals xs us → xs.all flatV = true → us.any (eqU x) = xs.any fun y => eqV y x
  | _, _, .nil, _ => rfl
  | y :: xs, u :: us, .cons r t, f => by
    rw [List.all_cons, Bool.and_eq_true] at f
    rw [List.any_cons, List.any_cons, eqU_of r f.1, any_eqU t f.2]
theorem mem_eqAt {A : Around} {s : Shared} {x : V} {v : Value} (rx : RelV x v) (fx : flatV x = true) : ∀ {xs : List V} {us : List Value}, Vals xs us → xs.all flatV = true → ∀ u ∈ us, SeqAt.EqAt A s u v (eqU x u)
  | _, _, .nil, _ => fun u hu => by cases hu
  | y :: xs, u :: us, .cons r t, f => fun u' hu => by
    rw [List.all_cons, Bool.and_eq_true] at f
    rcases List.mem_cons.mp hu with rfl | hu
    · rw [eqU_of r f.1]; exact eqAt_V r rx f.1 fx
    · exact mem_eqAt rx fx t f.2 u' hu
def inV (x : V) (xs : List V) : Bool := xs.any fun y => eqV y x
def rIn (K : PySem.W.Frag) (neg : Bool) : R2 := fun x y H Q => ∃ p xs, y = .ref p ∧ (SqL K H p xs ∨ SqT K H p xs) ∧ flatV x = true ∧ xs.all flatV = true ∧ Q (.bl (if neg then !inV x xs else inV x xs)) H
theorem op_in_seq : OpR X (compareOp .In) (rIn X.K false) := by
  intro pins s σ H x y v u Q I rx ry h
  obtain ⟨p, xs, rfl, hq, fx, fs, q⟩ := h
  cases ry
  rcases hq with hq | hq
  · obtain ⟨its, r, pl, hz⟩ := I.list hq
    refine SeqAt.in_listAt (eqU x) pl.isList (fun w hw => mem_eqAt rx fx r fs w (by simpa using hw)) ⟨.bl _, H, I, rfl, ?_⟩
    rw [show its.toArray.any (eqU x) = its.any (eqU x) by simp, any_eqU r fs]
    exact q
  · obtain ⟨its, r, pl, hz⟩ := I.tuple hq
    refine SeqAt.in_tupleAt (eqU x) pl (fun w hw => mem_eqAt rx fx r fs w (by simpa using hw)) ⟨.bl _, H, I, rfl, ?_⟩
    rw [show its.toArray.any (eqU x) = its.any (eqU x) by simp, any_eqU r fs]
    exact q
theorem op_notIn_seq : OpR X (compareOp .NotIn) (rIn X.K true) := by
  intro pins s σ H x y v u Q I rx ry h
  obtain ⟨p, xs, rfl, hq, fx, fs, q⟩ := h
  cases ry
  rcases hq with hq | hq
  · obtain ⟨its, r, pl, hz⟩ := I.list hq
    refine SeqAt.notIn_listAt (eqU x) pl.isList (fun w hw => mem_eqAt rx fx r fs w (by simpa using hw)) ⟨.bl _, H, I, rfl, ?_⟩
    rw [show its.toArray.any (eqU x) = its.any (eqU x) by simp, any_eqU r fs]
    exact q
  · obtain ⟨its, r, pl, hz⟩ := I.tuple hq
    refine SeqAt.notIn_tupleAt (eqU x) pl (fun w hw => mem_eqAt rx fx r fs w (by simpa using hw)) ⟨.bl _, H, I, rfl, ?_⟩
    rw [show its.toArray.any (eqU x) = its.any (eqU x) by simp, any_eqU r fs]
    exact q
theorem call_len_seq : CallR X (.builtin "len") (fun xs H Q => ∃ p ys, xs = [.ref p] ∧ (SqL X.K H p ys ∨ SqT X.K H p ys) ∧ Q (.int ys.length) H) := by
  intro pins s σ H xs us Q I r h
  obtain ⟨p, ys, rfl, hq, q⟩ := h
  obtain ⟨u, rfl, rx⟩ := vals1 r
  cases rx
  have hn := line63
  rcases hq with hq | hq
  · obtain ⟨its, r', pl, hz⟩ := I.list hq
    have hlen := r'.length
    exact Calls.call_len_list pl.isList (by simp only [List.size_toArray] <;> omega) ⟨.int ys.length, H, I.tok _, ⟨s.toks + 1, by rw [List.size_toArray, hlen]⟩, q⟩
  · obtain ⟨its, r', pl, hz⟩ := I.tuple hq
    have hlen := r'.length
    exact len_tuple pl (by simp only [List.size_toArray] <;> omega) ⟨.int ys.length, H, I.tok _, ⟨s.toks + 1, by rw [List.size_toArray, hlen]⟩, q⟩
theorem call_list_of : CallR X (.type "list") (fun xs H Q => ∃ p ys, xs = [.ref p] ∧ (SqL X.K H p ys ∨ SqT X.K H p ys) ∧ ∀ l, H l = none → Q (.ref l) (upd H l (.lst ys))) := by
  intro pins s σ H xs us Q I r h
  obtain ⟨p, ys, rfl, hq, q⟩ := h
  obtain ⟨u, rfl, rx⟩ := vals1 r
  cases rx
  have fin : ∀ (its : List Value), Vals ys its → ys.length ≤ sizeLine → ∀ (h' : Heap) (c' : Nat), (∀ b o', s.heap.get? b = some o' → h'.get? b = some o') →
      h'.get? s.heap.objs.size = some { cls := .type "list", dict := none, data := .seq its.toArray c', slots := #[] } → EP X pins σ Q (.ref s.heap.objs.size) { s with heap := h' } := fun its r' hz h' c' kp e =>
    ⟨.ref s.heap.objs.size, _, I.laid (t' := s.toks) kp (Nat.le_refl _) (show ObjOk X.prog X.w _ h' _ (.lst ys) from ⟨hz, its, c', r', e⟩), rfl, q _ (I.hok.fresh (Nat.le_refl _))⟩
  rcases hq with hq | hq
  · obtain ⟨its, r', pl, hz⟩ := I.list hq
    have hlen := r'.length
    obtain ⟨o, ho, hc, n, hd⟩ := pl.isList
    exact call_list_seq p (.inl rfl) ho hc hd (fun h' c' kp e => fin its r' hz h' c' kp e) (by simp only [List.size_toArray] <;> omega)
  · obtain ⟨its, r', pl, hz⟩ := I.tuple hq
    have hlen := r'.length
    obtain ⟨o, ho, hc, n, hd⟩ := pl
    exact call_list_seq p (.inr rfl) ho hc hd (fun h' c' kp e => fin its r' hz h' c' kp e) (by simp only [List.size_toArray] <;> omega)
def tyV (K : PySem.W.Frag) (T : String) (x : V) (H : Hp) : Prop := match x with
  | .str _ => T = "str"
  | .int _ => T = "int"
  | .ref p => (T = "list" ∧ ∃ xs, SqL K H p xs) ∨ (T = "tuple" ∧ ∃ o, K.lookup p = some o ∧ o.cls = .type "tuple" ∧ o.dict = none) ∨
      (T = "dict" ∧ ((∃ kvs, H p = some (.dK kvs)) ∨ ∃ kvs, H p = some (.dT kvs))) ∨ (T = "set" ∧ ∃ S n, H p = some (.set S n))
  | _ => False
theorem tyV_is {pins : List (Addr × Obj)} {σ : St} {H : Hp} {s : Shared} {T : String} {x : V} {v : Value} (I : Inv X pins σ H s) (r : RelV x v) (ty : tyV X.K T x H) :
    s.TypeIs v T ∧ ∀ a, v = .ref a → ∃ ob, s.heap.get? a = some ob ∧ ob.dict = none := by
  cases x with
  | str z =>
    obtain ⟨t, rfl⟩ := r
    cases (show T = "str" from ty)
    exact ⟨typeIs_str s z t, fun _ e => nomatch e⟩
  | int i =>
    obtain ⟨t, rfl⟩ := r
    cases (show T = "int" from ty)
    exact ⟨typeIs_int s i t, fun _ e => nomatch e⟩
  | ref p =>
    cases r
    rcases ty with ⟨rfl, xs, hq⟩ | ⟨rfl, o, hk, hc, hd⟩ | ⟨rfl, hk⟩ | ⟨rfl, S, n, hk⟩
    · obtain ⟨its, _, pl, _⟩ := I.list hq
      refine ⟨pl.isList.typeIs, fun a e => ?_⟩
      cases e
      obtain ⟨o, n, e, c, hd, _⟩ := pl
      exact ⟨o, e, hd⟩
    · refine ⟨⟨o, I.kIn p o hk, hc⟩, fun a e => ?_⟩
      cases e
      exact ⟨o, I.kIn _ o hk, hd⟩
    · have z : ∃ o, s.heap.get? p = some o ∧ o.ExactDict := by
        rcases hk with ⟨kvs, hk⟩ | ⟨kvs, hk⟩
        · obtain ⟨_, _, _, _, o, _, _, e, ex, _⟩ := I.hok p _ hk
          exact ⟨o, e, ex⟩
        · obtain ⟨_, _, _, _, o, _, _, e, ex, _⟩ := I.hok p _ hk
          exact ⟨o, e, ex⟩
      obtain ⟨o, e, ex⟩ := z
      refine ⟨⟨o, e, ex.1⟩, fun a e2 => ?_⟩
      cases e2
      exact ⟨o, e, ex.2.1⟩
    · obtain ⟨o, _, _, _, e, ex, _⟩ := I.hok p _ hk
      refine ⟨⟨o, e, ex.1⟩, fun a e2 => ?_⟩
      cases e2
      exact ⟨o, e, ex.2.1⟩
  | _ => exact False.elim ty
def tBM (K : PySem.W.Frag) (T : String) (r : V → List V → Hp → VK → Prop) (to : TE) (t : TA) : TE := fun σ H Q => to σ H fun x H1 => tyV K T x H1 ∧ t σ H1 fun xs H2 => r x xs H2 Q
variable {o e : Expr} {es : List Expr} {to : TE} {t : TA} {name : Str} {apos cpos : Pos} {T id : String} {r : V → List V → Hp → VK → Prop}
theorem pe_bm (pa : PlainAttrs T) (slot : Slot T name id) (hty : typeOf (.builtin id) = pure (.type "method_descriptor")) (hm : MtR X id r) (ho : PE X o to) (ha : PA X (e :: es) t)
    (hbase : attributeBase o name X.env (eval o X.env) = eval o X.env := by rfl)
    (hfew : ((backTo cpos (starEach (e :: es) X.env)).all (fun x => !x.1) && (backToKw cpos (keywordEach [] X.env)).all (fun x => x.1.isSome)
      && decide ((e :: es).length + ([] : List Keyword).length + (if ([] : List Keyword).isEmpty then 0 else 1) < 30)) = true := by rfl)
    (hline : (apos.endLine == cpos.line) = true := by rfl) (hs : starEach (e :: es) X.env = (false, eval e X.env) :: starEach es X.env := by rfl) (hplain : (backTo cpos (starEach es X.env)).any (·.1) = false := by rfl) :
    PE X (.Call (.Attribute o name apos) (e :: es) [] cpos) (tBM X.K T r to t) := by
  intro pins s σ H Q I h
  refine wpAny_Call_method_late hbase hfew hline rfl (thn (ho pins s σ H _ I h) fun v s1 ⟨x, H1, I1, r1, ty, q1⟩ => ?_)
  obtain ⟨h1, h2⟩ := tyV_is I1 r1 ty
  refine ⟨T, id, pa, slot, hty, h1, h2, ?_⟩
  have hA := ha cpos pins s1 σ H1 _ I1 q1
  rw [hs] at hA ⊢
  refine Calls.callWith_builtin (by show (false || (backTo cpos (starEach es X.env)).any (·.1)) = false; rw [hplain] <;> rfl) (Calls.evalArgs_plain ?_)
  exact thn hA fun us s2 ⟨vs, H2, I2, r2, q2⟩ => hm pins s2 σ H2 x vs v us Q I2 r1 r2 q2
end
end L2
namespace L2
open PySem PySem.Spec PyProof.Rows
def MtM (X : Cx) (id : String) (r : V → List V → Hp → VK → Prop) : Prop :=
  ∀ (pins : List (Addr × Obj)) (s : Shared) (σ : St) (H : Hp) (x : V) (xs : List V) (v : Value) (us : List Value) (Q : VK), Inv X pins σ H s → RelV x v → Vals xs us → r x xs H Q →
    wpAny (model X.prog X.w) X.A (call (.builtin id) (v :: us)) (EP X pins σ Q) X.xe s
theorem Vals.one : ∀ {x : V} {us : List Value}, Vals [x] us → ∃ u, us = [u] ∧ RelV x u
  | _, _, .cons r .nil => ⟨_, rfl, r⟩
theorem Vals.rep {xs : List V} {us : List Value} (h : Vals xs us) : ∀ k : Nat, Vals (List.replicate k xs).flatten (List.replicate k us).flatten
  | 0 => .nil
  | k + 1 => by
    rw [List.replicate_succ, List.replicate_succ, List.flatten_cons, List.flatten_cons]
    exact Vals.append h (Vals.rep h k)
theorem foldl_rep (its : List Value) : ∀ (k : Nat) (acc : List Value),
    List.foldl (fun x1 x2 => x1 ++ x2) acc.toArray (List.replicate k its.toArray) = (acc ++ (List.replicate k its).flatten).toArray
  | 0, acc => by simp
  | k + 1, acc => by
    have e : acc.toArray ++ its.toArray = (acc ++ its).toArray := by simp
    have e2 : (acc ++ its) ++ (List.replicate k its).flatten = acc ++ (List.replicate (k + 1) its).flatten := by
      rw [List.replicate_succ, List.flatten_cons, List.append_assoc]
    rw [← e2, ← foldl_rep its k (acc ++ its), ← e, List.replicate_succ, List.foldl_cons]
section
variable {X : Cx} {pins : List (Addr × Obj)} {σ : St} {H : Hp} {s : Shared} {l b : Addr} {xs ys zs : List V}
theorem Inv.lset {its its' : List Value} {n : Nat} {f : Array Value → Array Value} {t' : Nat} (I : Inv X pins σ H s) (hH : H l = some (.lst xs))
    (e : s.heap.get? l = some { cls := .type "list", data := .seq its.toArray n }) (hf : f its.toArray = its'.toArray) (hv : Vals ys its') (hz : ys.length ≤ sizeLine) :
    Inv X pins σ (upd H l (.lst ys)) { s with heap := s.heap.update l (Obj.mapSeq f), toks := t' } := by
  have q := PySem.IsL.update e f
  rw [hf] at q
  refine I.write (x := l) (e := l) (by rw [hH]; exact trivial) (.inl rfl) (fun b' u hb hu => (Heap.get?_update_other s.heap (Obj.mapSeq f) (Ne.symm hb)).trans hu) ⟨_, q⟩ ?_
  exact ⟨hz, its', _, hv, q⟩
theorem Inv.lnew {its : List Value} {t' : Nat} (I : Inv X pins σ H s) (hv : Vals ys its) (hz : ys.length ≤ sizeLine) :
    Inv X pins σ (upd H s.heap.objs.size (.lst ys)) { s with heap := s.heap.push { cls := .type "list", data := .seq its.toArray }, toks := t' } :=
  I.laid (fun _ _ q => Heap.get?_push_of_some _ q) (Nat.le_refl _) ⟨hz, its, 0, hv, Heap.get?_push_size _ rfl⟩
theorem Inv.fresh (I : Inv X pins σ H s) : H s.heap.objs.size = none := I.hok.fresh (Nat.le_refl _)
theorem Inv.lstM (I : Inv X pins σ H s) (hH : H l = some (.lst xs)) : xs.length ≤ sizeLine ∧ ∃ (its : List Value) (n : Nat), Vals xs its ∧ xs.length = its.length ∧ s.heap.get? l = some { cls := .type "list", data := .seq its.toArray n } := by
  obtain ⟨z, its, n, r, e⟩ := I.hok l _ hH
  exact ⟨z, its, n, r, r.length, e⟩
theorem notLongL {n : Nat} (h : n ≤ sizeLine) : Builtin.List.listTooLong n = false := by
  unfold Builtin.List.listTooLong
  exact decide_eq_false (by omega)
end
section
variable {X : Cx}
def rAppend : V → List V → Hp → VK → Prop := fun x vs H Q => ∃ l xs y, x = .ref l ∧ vs = [y] ∧ H l = some (.lst xs) ∧ xs.length < sizeLine ∧ Q .non (upd H l (.lst (xs ++ [y])))
theorem mt_append : MtM X "list.append" rAppend := by
  intro pins s σ H x vs v us Q I rx rv h
  obtain ⟨l, xs, y, rfl, rfl, hH, hz, q⟩ := h
  cases rx
  obtain ⟨u, rfl, ru⟩ := rv.one
  obtain ⟨z, its, n, r, hl, e⟩ := I.lstM hH
  refine call_meets F.slot_list_append ⟨_, e, rfl⟩ F.entry_list_append (F.args_list_append_2 _ _) (PySem.list_append l its.toArray n u (by rw [List.size_toArray]; omega)) ⟨e, ?_⟩
  refine ⟨.non, _, I.lset (its' := its ++ [u]) hH e (by simp) (r.append (.cons ru .nil)) ?_, rfl, q⟩
  rw [List.length_append, List.length_singleton]
  omega
def rExtend : V → List V → Hp → VK → Prop := fun x vs H Q => ∃ l b xs zs, x = .ref l ∧ vs = [.ref b] ∧ H l = some (.lst xs) ∧ H b = some (.lst zs) ∧ xs.length + zs.length ≤ sizeLine ∧ Q .non (upd H l (.lst (xs ++ zs)))
theorem mt_extend : MtM X "list.extend" rExtend := by
  intro pins s σ H x vs v us Q I rx rv h
  obtain ⟨l, b, xs, zs, rfl, rfl, hH, hB, hz, q⟩ := h
  cases rx
  obtain ⟨u, rfl, ru⟩ := rv.one
  cases ru
  obtain ⟨z, its, n, r, hl, e⟩ := I.lstM hH
  obtain ⟨z2, its2, n2, r2, hl2, e2⟩ := I.lstM hB
  have hsz : its.toArray.size + its2.toArray.size ≤ sizeLine := by rw [List.size_toArray, List.size_toArray]; omega
  have hlong : ¬ (!its.toArray.isEmpty && Builtin.List.listTooLong (its.toArray.size + its2.toArray.size)) = true := by
    rw [notLongL hsz, Bool.and_false]
    exact Bool.false_ne_true
  refine call_meets F.slot_list_extend ⟨_, e, rfl⟩ F.entry_list_extend (F.args_list_extend_2 _ _)
    (AutoSeq1.list_extend_list_list_0 l its.toArray n b its2.toArray n2 hlong (by rw [List.size_toArray]; omega) (by omega)) ⟨e, e2, ?_⟩
  refine ⟨.non, _, I.lset (its' := its ++ its2) hH e (by simp) (r.append r2) ?_, rfl, q⟩
  rw [List.length_append]
  omega
def rCat : R2 := fun x y H Q => ∃ l b xs zs, x = .ref l ∧ y = .ref b ∧ H l = some (.lst xs) ∧ H b = some (.lst zs) ∧ xs.length + zs.length ≤ sizeLine ∧ ∀ p, H p = none → Q (.ref p) (upd H p (.lst (xs ++ zs)))
theorem op_cat : OpR X (binaryOp .Add) rCat := by
  intro pins s σ H x y v u Q I rx ry h
  obtain ⟨l, b, xs, zs, rfl, rfl, hH, hB, hz, q⟩ := h
  cases rx
  cases ry
  obtain ⟨z, its, n, r, hl, e⟩ := I.lstM hH
  obtain ⟨z2, its2, n2, r2, hl2, e2⟩ := I.lstM hB
  refine PySem.P.add_list e e2 ?_ (by rw [List.size_toArray, List.size_toArray]; omega)
  have ea : its.toArray ++ its2.toArray = (its ++ its2).toArray := by simp
  rw [ea]
  exact ⟨.ref _, _, I.lnew (t' := s.toks) (r.append r2) (by rw [List.length_append]; omega), rfl, q _ I.fresh⟩
def rRep : R2 := fun x y H Q => ∃ l k xs, x = .ref l ∧ y = .int k ∧ H l = some (.lst xs) ∧ -(2 ^ 63) ≤ k ∧ k < 2 ^ 63 ∧ xs.length * k.toNat ≤ sizeLine ∧
  ∀ p, H p = none → Q (.ref p) (upd H p (.lst (List.replicate k.toNat xs).flatten))
theorem len_rep {α : Type} (xs : List α) (k : Nat) : (List.replicate k xs).flatten.length = k * xs.length := by
  induction k with
  | zero => simp
  | succ k ih => rw [List.replicate_succ, List.flatten_cons, List.length_append, ih, Nat.succ_mul, Nat.add_comm]
theorem op_rep : OpR X (binaryOp .Mult) rRep := by
  intro pins s σ H x y v u Q I rx ry h
  obtain ⟨l, k, xs, rfl, rfl, hH, h1, h2, hz, q⟩ := h
  cases rx
  obtain ⟨t, rfl⟩ := ry
  obtain ⟨z, its, n, r, hl, e⟩ := I.lstM hH
  have hlen : its.toArray.size * k.toNat ≤ sizeLine := by rw [List.size_toArray, ← hl]; exact hz
  have hcap : ¬ its.toArray.size * k.toNat > (2 ^ 63 - 1) / 8 := by
    have : (sizeLine : Nat) ≤ (2 ^ 63 - 1) / 8 := by decide
    omega
  have hfit : ¬ (!Builtin.List.listFitsIndex k) = true := by
    rw [fitsIndex_both h1 h2]
    exact Bool.false_ne_true
  have hlong : ¬ Builtin.List.listTooLong (its.toArray.size * k.toNat) = true := by
    rw [notLongL hlen]
    exact Bool.false_ne_true
  have hnew : List.foldl (fun x1 x2 => x1 ++ x2) #[] (List.replicate (if its.toArray.isEmpty = true then 0 else k.toNat) its.toArray) = (List.replicate k.toNat its).flatten.toArray := by
    have f0 : ∀ m : Nat, List.foldl (fun x1 x2 => x1 ++ x2) #[] (List.replicate m its.toArray) = (List.replicate m its).flatten.toArray := fun m => by
      have := foldl_rep its m []
      rw [List.nil_append] at this
      exact this
    rw [f0]
    cases its with
    | nil => simp
    | cons a r' => rw [if_neg (by simp)]
  refine wpAny_binaryOp_repeat_ref (T := "list") (U := "int") (by decide) ⟨_, e, rfl⟩ (fun s' => typeIs_int s' k t) noFill_list_mul F.fills_int_mul F.slot_int_rmul repeat_list F.slot_int_index.lookup
    (call_meets F.slot_int_rmul (typeIs_int s k t) F.entry_int_rmul (F.args_int_rmul_2 _ _) (int___rmul___int_list k t l its.toArray n)
      ⟨e, rfl, ⟨_, e, rfl⟩, call_meets F.slot_list_mul ⟨_, e, rfl⟩ F.entry_list_mul (F.args_list_mul_2 _ _) (AutoListH.list___mul___list_int_3 l its.toArray n k t hfit hcap hlong) ⟨e, ?_⟩⟩)
  rw [hnew]
  exact ⟨.ref _, _, I.lnew (t' := s.toks) (r.rep k.toNat) (by rw [len_rep, Nat.mul_comm]; exact hz), rfl, q _ I.fresh⟩
end
section
variable {prog : Program} {w : World} {A : Around} {E : Value → Shared → Prop} {s : Shared}
end
section
variable {X : Cx}
end
end L2
namespace L2
open PySem PySem.Spec PyProof.Rows
theorem Vals.bls : ∀ {bs : List Bool} {us : List Value}, Vals (bs.map V.bl) us → us = bs.map Value.bool
  | [], us, h => by
    rw [List.map_nil] at h
    cases h
    rfl
  | b :: bs, us, h => by
    rw [List.map_cons] at h
    cases h with
    | cons r t =>
      cases r
      rw [Vals.bls t, List.map_cons]
theorem Vals.ref1 {a : Addr} {us : List Value} (r : Vals [V.ref a] us) : us = [Value.ref a] := by
  cases r with
  | cons r t =>
    cases t
    cases r
    rfl
section
variable {prog : Program} {w : World} {A : Around} {E : Value → Shared → Prop} {s : Shared} {l : Addr} {its : List Value} {ns : List Int} {Q : Value → Shared → Prop}
end
section
variable {X : Cx}
end
section
variable {X : Cx}
end
section
variable {X : Cx}
end
theorem iter_any {prog : Program} {w : World} {A : Around} {E : Value → Shared → Prop} {s : Shared} {l : Addr} {items : Array Value} {Q : Value → Shared → Prop} (hl : s.heap.IsList l items)
    (h : ∀ s₂ : Shared, s₂ = { s with heap := s.heap.push { cls := .type "list_iterator", data := .fields #[.ref l, .int 0 0] } } →
      (s₂.heap.IsListIter s.heap.objs.size l 0 ∧ s₂.heap.IsList l items) → l ≠ s.heap.objs.size → Q (.ref s.heap.objs.size) s₂) : wpAny (model prog w) A (pyIter (.ref l)) Q E s := by
  have hlt : l < s.heap.objs.size := by obtain ⟨_, e, _⟩ := hl; exact Heap.lt_size e
  exact wpAny_pyIter_list hl (h _ rfl ⟨⟨_, Heap.get?_push_size _ rfl, rfl, rfl⟩, hl.push _⟩ (Nat.ne_of_lt hlt))
theorem truth_bools {prog : Program} {w : World} {A : Around} {bs : List Bool} {its : List Value} (e : its = bs.map Value.bool) :
    TruthOf prog w A (fun i v => its.toArray[i]? = some v) (fun i => bs.getD i false) := fun i v s Q E hv hq => by
  have hv' : its[i]? = some v := by simpa using hv
  rw [e, List.getElem?_map] at hv'
  obtain ⟨b, hb, rfl⟩ := Option.map_eq_some_iff.mp hv'
  have hg : bs.getD i false = b := by rw [List.getD_eq_getElem?_getD, hb] <;> rfl
  have hq' : Q (bs.getD i false) s := hq
  rw [hg] at hq'
  exact wpAny_truthy_bool hq'
theorem any_range : ∀ bs : List Bool, (List.range bs.length).any (fun i => bs.getD i false) = bs.any id
  | [] => rfl
  | b :: bs => by
    rw [List.length_cons, List.range_succ_eq_map, List.any_cons, List.any_map, List.any_cons, ← any_range bs]
    all_goals rfl
theorem all_range : ∀ bs : List Bool, (List.range bs.length).all (fun i => bs.getD i false) = bs.all id
  | [] => rfl
  | b :: bs => by
    rw [List.length_cons, List.range_succ_eq_map, List.all_cons, List.all_map, List.all_cons, ← all_range bs]
    all_goals rfl
section
variable {X : Cx}
def rAny (K : PySem.W.Frag) : List V → Hp → VK → Prop := fun vs H Q => ∃ (a : Addr) (bs : List Bool), vs = [V.ref a] ∧ SqL K H a (bs.map V.bl) ∧ Q (.bl (bs.any id)) H
def rAll (K : PySem.W.Frag) : List V → Hp → VK → Prop := fun vs H Q => ∃ (a : Addr) (bs : List Bool), vs = [V.ref a] ∧ SqL K H a (bs.map V.bl) ∧ Q (.bl (bs.all id)) H
theorem cr_any (hc : X.calm = true) : CallR X (.builtin "any") (rAny X.K) := by
  intro pins s σ H vs us Q I r h
  obtain ⟨a, bs, rfl, hs, q⟩ := h
  obtain ⟨its, rv, hl, _⟩ := I.list hs
  rw [Vals.ref1 r]
  have hb := rv.bls
  refine call_any_walk (iter_any hl.isList fun s₂ e2 st hne => ?_)
  subst e2
  refine ⟨_, _, _, _, _, _, _, rfl, Walks.list (A := X.A.in1) (I.ok.hd hc) _ a hne its.toArray, st, truth_bools hb, fun h' tk hk => ?_⟩
  refine ⟨.bl _, H, I.kept fun b o eo => hk b o (fun hmem => ?_) (Heap.get?_push_of_some _ eo), ?_, q⟩
  · rcases List.mem_cons.mp hmem with e1 | hmem
    · exact absurd (e1 ▸ Heap.lt_size eo) (Nat.lt_irrefl _)
    · cases hmem
  · show Value.bool _ = Value.bool _
    rw [← any_range, hb, List.size_toArray, List.length_map]
theorem cr_all (hc : X.calm = true) : CallR X (.builtin "all") (rAll X.K) := by
  intro pins s σ H vs us Q I r h
  obtain ⟨a, bs, rfl, hs, q⟩ := h
  obtain ⟨its, rv, hl, _⟩ := I.list hs
  rw [Vals.ref1 r]
  have hb := rv.bls
  refine call_all_walk (iter_any hl.isList fun s₂ e2 st hne => ?_)
  subst e2
  refine ⟨_, _, _, _, _, _, _, rfl, Walks.list (A := X.A.in1) (I.ok.hd hc) _ a hne its.toArray, st, truth_bools hb, fun h' tk hk => ?_⟩
  refine ⟨.bl _, H, I.kept fun b o eo => hk b o (fun hmem => ?_) (Heap.get?_push_of_some _ eo), ?_, q⟩
  · rcases List.mem_cons.mp hmem with e1 | hmem
    · exact absurd (e1 ▸ Heap.lt_size eo) (Nat.lt_irrefl _)
    · cases hmem
  · show Value.bool _ = Value.bool _
    rw [← all_range, hb, List.size_toArray, List.length_map]
end
mutual
inductive Dp (K : PySem.W.Frag) (H : Hp) : V → PyData → Prop
  | non : Dp K H .non .none
  | bl (b : Bool) : Dp K H (.bl b) (.bool b)
  | int (i : Int) : Dp K H (.int i) (.int i)
  | str (x : Str) : Dp K H (.str x) (.str x)
  | lst {a : Addr} {xs : List V} {ds : List PyData} : SqL K H a xs → DpAll K H xs ds → Dp K H (.ref a) (.list ds)
  | tup {a : Addr} {xs : List V} {ds : List PyData} : SqT K H a xs → DpAll K H xs ds → Dp K H (.ref a) (.tuple ds)
inductive DpAll (K : PySem.W.Frag) (H : Hp) : List V → List PyData → Prop
  | nil : DpAll K H [] []
  | cons {v : V} {vs : List V} {d : PyData} {ds : List PyData} : Dp K H v d → DpAll K H vs ds → DpAll K H (v :: vs) (d :: ds)
end
section
variable {X : Cx} {pins : List (Addr × Obj)} {σ : St} {H : Hp} {s : Shared}
mutual
theorem Dp.reads (I : Inv X pins σ H s) : ∀ (d : PyData) (v : V) (u : Value), Dp X.K H v d → RelV v u → ∃ as, Reads s.heap u d as
  | .none, _, _, h, r => by
    cases h
    cases r
    exact ⟨_, Reads.none⟩
  | .bool b, _, _, h, r => by
    cases h
    cases r
    exact ⟨_, Reads.bool b⟩
  | .int i, _, _, h, r => by
    cases h
    obtain ⟨t, rfl⟩ := r
    exact ⟨_, Reads.int i t⟩
  | .str x, _, _, h, r => by
    cases h
    obtain ⟨t, rfl⟩ := r
    exact ⟨_, Reads.str x t⟩
  | .list ds, _, _, h, r => by
    cases h with
    | lst hs ha =>
      cases r
      obtain ⟨its, rv, ⟨o, n, ho, hc, _, hd⟩, _⟩ := I.list hs
      obtain ⟨as, hr⟩ := Dp.readsAll I ds _ its ha rv
      exact ⟨_, Reads.list ho hc hd hr⟩
  | .tuple ds, _, _, h, r => by
    cases h with
    | tup hs ha =>
      cases r
      obtain ⟨its, rv, ⟨o, ho, hc, n, hd⟩, _⟩ := I.tuple hs
      obtain ⟨as, hr⟩ := Dp.readsAll I ds _ its ha rv
      exact ⟨_, Reads.tuple ho hc hd hr⟩
  | .dict _, _, _, h, _ => by cases h
theorem Dp.readsAll (I : Inv X pins σ H s) : ∀ (ds : List PyData) (vs : List V) (us : List Value), DpAll X.K H vs ds → Vals vs us → ∃ as, ReadsAll s.heap us ds as
  | [], _, _, h, r => by
    cases h
    cases r
    exact ⟨_, ReadsAll.nil⟩
  | d :: ds, _, _, h, r => by
    cases h with
    | cons h1 h2 =>
      cases r with
      | cons r1 r2 =>
        obtain ⟨as, q1⟩ := Dp.reads I d _ _ h1 r1
        obtain ⟨bs, q2⟩ := Dp.readsAll I ds _ _ h2 r2
        exact ⟨_, ReadsAll.cons q1 q2⟩
end
end
section
variable {X : Cx}
def rEqD (K : PySem.W.Frag) : R2 := fun x y H Q => ∃ d e, Dp K H x d ∧ Dp K H y e ∧ SeqAt.shaped d = true ∧ SeqAt.shaped e = true ∧ Q (.bl (PyData.eqv d e)) H
def rNeD (K : PySem.W.Frag) : R2 := fun x y H Q => ∃ d e, Dp K H x d ∧ Dp K H y e ∧ SeqAt.shaped d = true ∧ SeqAt.shaped e = true ∧ Q (.bl (!PyData.eqv d e)) H
theorem op_eqD (hu : X.A.units + 64 < cLine) : OpR X (compareOp .Eq) (rEqD X.K) := by
  intro pins s σ H x y v u Q I rx ry h
  obtain ⟨d, e, hd, he, sd, se, q⟩ := h
  obtain ⟨as, r1⟩ := Dp.reads I d x v hd rx
  obtain ⟨bs, r2⟩ := Dp.reads I e y u he ry
  exact SeqAt.compareEq_shaped r1 r2 sd se hu ⟨.bl _, H, I, rfl, q⟩
theorem op_neD (hu : X.A.units + 64 < cLine) : OpR X (compareOp .NotEq) (rNeD X.K) := by
  intro pins s σ H x y v u Q I rx ry h
  obtain ⟨d, e, hd, he, sd, se, q⟩ := h
  obtain ⟨as, r1⟩ := Dp.reads I d x v hd rx
  obtain ⟨bs, r2⟩ := Dp.reads I e y u he ry
  exact SeqAt.compareNe_shaped r1 r2 sd se hu ⟨.bl _, H, I, rfl, q⟩
end
end L2
namespace L2
open PySem PySem.Spec PyProof.Rows
abbrev CellAt (h : Heap) (c : Addr) (v : Option Value) : Prop := h.IsCell c v
def relS (scope sc : Scope) : Scope :=
  { scope with names := scope.names.map fun (n, k) => if (k == .free && sc.kind == .function && sc.names.lookup n == some .cell) then (n, .cell) else (n, k) }
def cloFrom (cells : List (Str × Addr)) : List (Str × NameKind) → List (Str × Addr) → List (Str × Addr)
  | [], acc => acc
  | (n, k) :: r, acc => if k == .free then cloFrom cells r ((n, (cells.lookup n).getD 0) :: acc) else cloFrom cells r acc
theorem closure_loop (env : Env) (f : Str × NameKind → List (Str × Addr) → Sem (ForInStep (List (Str × Addr))))
    (hf : ∀ n k c, f (n, k) c = if k == .free then (do let a ← cellOf env n; pure (.yield ((n, a) :: c))) else pure (.yield c)) :
    ∀ (names : List (Str × NameKind)) (acc : List (Str × Addr)), (∀ y ∈ names, y.2 = .free → ∃ c, env.cells.lookup y.1 = some c) → forIn names acc f = pure (cloFrom env.cells names acc)
  | [], acc, _ => by rw [List.forIn_nil]; rfl
  | (n, k) :: r, acc, h => by
    rw [List.forIn_cons, hf]
    have ih := fun acc => closure_loop env f hf r acc fun y hy => h y (List.mem_cons_of_mem _ hy)
    unfold cloFrom
    by_cases hk : (k == NameKind.free) = true
    · rw [if_pos hk, if_pos hk]
      obtain ⟨c, hc⟩ := h (n, k) List.mem_cons_self (by simpa using hk)
      have e : cellOf env n = pure c := by unfold cellOf; rw [hc]
      rw [e]
      have e2 : (env.cells.lookup n).getD 0 = c := by rw [hc]; rfl
      rw [e2]
      exact ih _
    · rw [if_neg hk, if_neg hk]
      exact ih _
theorem closure_ok {scope : Scope} {env : Env} (h : ∀ y ∈ scope.names, y.2 = .free → ∃ c, env.cells.lookup y.1 = some c) : closureFor scope env = pure (cloFrom env.cells scope.names []) := by
  simp only [closureFor]
  rw [closure_loop env _ (fun n k c => rfl) scope.names [] h]
  rfl
theorem mem_lookup {α : Type} : ∀ {l : List (Str × α)} {n : Str} {c : α}, (n, c) ∈ l → ∃ c', l.lookup n = some c'
  | (k, v) :: r, n, c, h => by
    rw [List.lookup_cons]
    cases hb : n == k with
    | true => exact ⟨_, rfl⟩
    | false =>
      rcases List.mem_cons.mp h with e | h
      · cases e; simp at hb
      · exact mem_lookup h
theorem cloFrom_mem {cells : List (Str × Addr)} : ∀ {names : List (Str × NameKind)} {acc : List (Str × Addr)} {n : Str} {c : Addr}, (n, c) ∈ cloFrom cells names acc → (n, c) ∈ acc ∨ ((n, .free) ∈ names ∧ c = (cells.lookup n).getD 0)
  | [], _, _, _, h => .inl h
  | (m, k) :: r, acc, n, c, h => by
    unfold cloFrom at h
    split at h
    · rename_i hk
      have hk : k = .free := by simpa using hk
      rcases cloFrom_mem h with h | ⟨h1, h2⟩
      · rcases List.mem_cons.mp h with e | h
        · cases e; exact .inr ⟨hk ▸ List.mem_cons_self, rfl⟩
        · exact .inl h
      · exact .inr ⟨List.mem_cons_of_mem _ h1, h2⟩
    · rcases cloFrom_mem h with h | ⟨h1, h2⟩
      · exact .inl h
      · exact .inr ⟨List.mem_cons_of_mem _ h1, h2⟩
theorem cloFrom_acc {cells : List (Str × Addr)} : ∀ {names : List (Str × NameKind)} {acc : List (Str × Addr)} {p : Str × Addr}, p ∈ acc → p ∈ cloFrom cells names acc
  | [], _, _, h => h
  | (m, k) :: r, acc, p, h => by
    unfold cloFrom
    split
    · exact cloFrom_acc (List.mem_cons_of_mem _ h)
    · exact cloFrom_acc h
theorem cloFrom_has {cells : List (Str × Addr)} : ∀ {names : List (Str × NameKind)} {acc : List (Str × Addr)} {n : Str}, (n, .free) ∈ names → (n, (cells.lookup n).getD 0) ∈ cloFrom cells names acc
  | (m, k) :: r, acc, n, h => by
    unfold cloFrom
    rcases List.mem_cons.mp h with e | h
    · cases e
      exact cloFrom_acc List.mem_cons_self
    · split
      · exact cloFrom_has h
      · exact cloFrom_has h
theorem cells_mem : ∀ {names : List (Str × NameKind)} {h : Heap} {acc : List (Str × Addr)} {x : Str} {c : Addr}, (x, c) ∈ cellsFrom h.objs.size names acc →
    (x, c) ∈ acc ∨ ((x, .cell) ∈ names ∧ h.objs.size ≤ c ∧ CellAt (pushCells h names) c none)
  | [], _, _, _, _, h => .inl h
  | (n, k) :: r, h, acc, x, c, hm => by
    unfold cellsFrom at hm
    unfold pushCells
    split at hm
    · rename_i hk
      rw [if_pos hk]
      have hk : k = .cell := by simpa using hk
      rw [← Heap.size_push h { cls := .type "cell", data := .cell none }] at hm
      rcases cells_mem hm with hm | ⟨h1, h2, h3⟩
      · rcases List.mem_cons.mp hm with e | hm
        · cases e
          exact .inr ⟨hk ▸ List.mem_cons_self, Nat.le_refl _, _, pushCells_keeps r _ _ _ (Heap.get?_push_size _ rfl), rfl⟩
        · exact .inl hm
      · rw [Heap.size_push] at h2
        exact .inr ⟨List.mem_cons_of_mem _ h1, Nat.le_of_succ_le h2, h3⟩
    · rename_i hk
      rw [if_neg hk]
      rcases cells_mem hm with hm | ⟨h1, h2, h3⟩
      · exact .inl hm
      · exact .inr ⟨List.mem_cons_of_mem _ h1, h2, h3⟩
theorem cells_acc : ∀ {names : List (Str × NameKind)} {n : Nat} {acc : List (Str × Addr)} {p : Str × Addr}, p ∈ acc → p ∈ cellsFrom n names acc
  | [], _, _, _, h => h
  | (m, k) :: r, n, acc, p, h => by
    unfold cellsFrom
    split
    · exact cells_acc (List.mem_cons_of_mem _ h)
    · exact cells_acc h
theorem cells_has : ∀ {names : List (Str × NameKind)} {n : Nat} {acc : List (Str × Addr)} {x : Str}, (x, .cell) ∈ names → ∃ c, (x, c) ∈ cellsFrom n names acc
  | (m, k) :: r, n, acc, x, h => by
    unfold cellsFrom
    rcases List.mem_cons.mp h with e | h
    · cases e
      exact ⟨n, cells_acc List.mem_cons_self⟩
    · split
      · exact cells_has h
      · exact cells_has h
theorem cells_inj : ∀ {names : List (Str × NameKind)} {h : Heap} {acc : List (Str × Addr)} {x y : Str} {c : Addr}, (∀ p ∈ acc, p.2 < h.objs.size) → (∀ x y c, (x, c) ∈ acc → (y, c) ∈ acc → x = y) →
    (x, c) ∈ cellsFrom h.objs.size names acc → (y, c) ∈ cellsFrom h.objs.size names acc → x = y
  | [], _, _, _, _, _, _, hi, h1, h2 => hi _ _ _ h1 h2
  | (n, k) :: r, h, acc, x, y, c, hl, hi, h1, h2 => by
    unfold cellsFrom at h1 h2
    split at h1
    · rename_i hk
      rw [if_pos hk] at h2
      rw [← Heap.size_push h { cls := .type "cell", data := .cell none }] at h1 h2
      refine cells_inj (h := h.push _) (fun p hp => ?_) (fun x y c a b => ?_) h1 h2
      · rw [Heap.size_push]
        rcases List.mem_cons.mp hp with rfl | hp
        · exact Nat.lt_succ_self _
        · exact Nat.lt_succ_of_lt (hl p hp)
      · rcases List.mem_cons.mp a with e | a <;> rcases List.mem_cons.mp b with e' | b
        · cases e; cases e'; rfl
        · cases e; exact absurd (hl _ b) (Nat.lt_irrefl _)
        · cases e'; exact absurd (hl _ a) (Nat.lt_irrefl _)
        · exact hi _ _ _ a b
    · rename_i hk
      rw [if_neg hk] at h2
      exact cells_inj hl hi h1 h2
theorem newEnv_comp {M : Model} {A : Around} {E : Value → Shared → Prop} {s : Shared} {scope : Scope} {globals : Addr} {closure : List (Str × Addr)} {qual : Str} {func : Option Addr} {code : Value} {around : Env} {builtins : Addr} {Q : Env → Shared → Prop}
    (h : Q (newEnv scope s.heap.objs.size globals (cellsFrom (s.heap.objs.size + 1) scope.names closure) qual func code (some around) builtins)
      { s with heap := pushCells (s.heap.push { cls := .type "dict", data := .dict #[] }) scope.names }) :
    wpAny M A (newFunctionEnv scope globals closure [] qual func code (some around) builtins) Q E s := by
  simp only [newFunctionEnv, Option.isSome_some, if_true]
  refine wpAny_bind (wpAny_alloc ?_)
  refine wpAny_bind (wpAny_layCells _ (fun n k c => rfl) scope.names closure _ _ ?_)
  rw [show ({ s with heap := s.heap.push { cls := .type "dict", data := .dict #[] } } : Shared).heap.objs.size = s.heap.objs.size + 1 from Heap.size_push ..]
  rw [List.forIn_nil]
  exact wpAny_bind (wpAny_pure (wpAny_pure h))
theorem lookup_relS {sc : Scope} : ∀ {names : List (Str × NameKind)} {x : Str} {k : NameKind},
    (names.map fun (n, k) => if (k == NameKind.free && sc.kind == .function && sc.names.lookup n == some .cell) then (n, NameKind.cell) else (n, k)).lookup x = some k →
    ∃ k', names.lookup x = some k' ∧ (k = k' ∨ (k' = .free ∧ k = .cell))
  | [], _, _, h => by simp at h
  | (n, k₀) :: r, x, k, h => by
    have ih := @lookup_relS sc r x k
    have h' : List.lookup x ((if (k₀ == NameKind.free && sc.kind == .function && sc.names.lookup n == some .cell) = true then (n, NameKind.cell) else (n, k₀)) :: (r.map _)) = some k := h
    cases hx : x == n with
    | true =>
      simp only [List.lookup_cons, hx]
      by_cases hc : (k₀ == NameKind.free && sc.kind == .function && sc.names.lookup n == some .cell) = true
      · rw [if_pos hc] at h'
        simp only [List.lookup_cons, hx] at h'
        cases h'
        simp only [Bool.and_eq_true, beq_iff_eq] at hc
        exact ⟨k₀, rfl, .inr ⟨hc.1.1, rfl⟩⟩
      · rw [if_neg hc] at h'
        simp only [List.lookup_cons, hx] at h'
        cases h'
        exact ⟨_, rfl, .inl rfl⟩
    | false =>
      simp only [List.lookup_cons, hx]
      by_cases hc : (k₀ == NameKind.free && sc.kind == .function && sc.names.lookup n == some .cell) = true
      · rw [if_pos hc] at h'
        simp only [List.lookup_cons, hx] at h'
        exact ih h'
      · rw [if_neg hc] at h'
        simp only [List.lookup_cons, hx] at h'
        exact ih h'
structure BlkOk (N : List Str) (sc scope : Scope) (own : List (Str × Nat)) : Prop where
  kind : scope.kind = .function
  uniq : ∀ y ∈ scope.names, scope.names.lookup y.1 = some y.2
  ix : ∀ p ∈ own, N[p.2]? = some p.1
  free : ∀ y ∈ scope.names, y.2 = .free → sc.names.lookup y.1 = some .cell ∨ sc.names.lookup y.1 = some .free
  own : ∀ y ∈ scope.names, y.2 = .local ∨ y.2 = .cell → y.1 ∈ own.map (·.1) ∨ y.1 ∉ N
def wipe (σ : St) : List Nat → St
  | [] => σ
  | v :: vs => (wipe σ vs).set v none
theorem wipe_length (σ : St) : ∀ vs : List Nat, (wipe σ vs).length = σ.length
  | [] => rfl
  | v :: vs => by unfold wipe; rw [List.length_set, wipe_length σ vs]
theorem wipe_some {σ : St} {i : Nat} {x : V} : ∀ {vs : List Nat}, (wipe σ vs)[i]? = some (some x) → σ[i]? = some (some x) ∧ i ∉ vs
  | [], h => ⟨h, by simp⟩
  | v :: vs, h => by
    unfold wipe at h
    by_cases hi : v = i
    · subst hi
      by_cases hv : v < (wipe σ vs).length
      · rw [List.getElem?_set_self hv] at h; cases h
      · rw [List.getElem?_eq_none (by simpa using hv)] at h; cases h
    · rw [List.getElem?_set_ne hi] at h
      obtain ⟨h1, h2⟩ := wipe_some h
      exact ⟨h1, by simp only [List.mem_cons, not_or]; exact ⟨fun e => hi e.symm, h2⟩⟩
abbrev Cx.blk (X : Cx) (s : Shared) (H : Hp) (scope : Scope) (cenv : Env) (fp : List Addr) : Cx := { X with s_0 := s, H_0 := H, env := cenv, outer := X.stack, ex := fp, fn := fun x => scope.names.lookup x == some .cell, pn := [], xe := fun _ _ => False }
section
variable {X : Cx} {pins : List (Addr × Obj)} {σ : St} {H : Hp} {s : Shared}
theorem block_start {scope : Scope} {own : List (Str × Nat)} {fp : List Addr} (I : Inv X pins σ H s) (ok : BlkOk X.N X.env.scope scope own) (hN : X.N.Nodup) (hfp : ∀ b ∈ fp, FpOk X pins H b ∧ b < s.heap.objs.size) :
    Inv (X.blk s H scope (compEnvC scope (cellsFrom (s.heap.objs.size + 1) scope.names (cloFrom X.env.cells scope.names [])) s.heap.objs.size X.env) fp) [] (wipe σ (own.map (·.2))) H { s with heap := pushCells (s.heap.push { cls := .type "dict", data := .dict #[] }) scope.names } := by
  have hfree : ∀ y ∈ scope.names, y.2 = .free → ∃ c, X.env.cells.lookup y.1 = some c := fun y hy e => by
    rcases ok.free y hy e with k | k
    · exact I.ok.has _ (.inl k)
    · exact I.ok.has _ (.inr k)
  generalize hcenv : compEnvC scope (cellsFrom (s.heap.objs.size + 1) scope.names (cloFrom X.env.cells scope.names [])) s.heap.objs.size X.env = cenv
  have kp : ∀ b o, s.heap.get? b = some o → (pushCells (s.heap.push { cls := .type "dict", data := .dict #[] }) scope.names).get? b = some o := fun b o e => pushCells_keeps _ _ _ _ (Heap.get?_push_of_some _ e)
  have hL : cenv.locals = s.heap.objs.size := by rw [← hcenv]; rfl
  have hcl : cenv.cells = cellsFrom (s.heap.objs.size + 1) scope.names (cloFrom X.env.cells scope.names []) := by rw [← hcenv]; rfl
  have hsc : cenv.scope = relS scope X.env.scope := by rw [← hcenv]; rfl
  rw [← Heap.size_push s.heap { cls := .type "dict", data := .dict #[] }] at hcl
  have cm : ∀ {y c}, (y, c) ∈ cloFrom X.env.cells scope.names [] → X.env.cells.lookup y = some c ∧ c < s.heap.objs.size := fun {y c} hm => by
    rcases cloFrom_mem hm with hm | ⟨h1, rfl⟩
    · cases hm
    · obtain ⟨c, hc⟩ := hfree _ h1 rfl
      rw [hc]
      obtain ⟨w, z⟩ := I.cell _ _ hc
      exact ⟨rfl, z.lt⟩
  have mem : ∀ {y c}, cenv.cells.lookup y = some c → (X.env.cells.lookup y = some c ∧ c < s.heap.objs.size) ∨ (s.heap.objs.size + 1 ≤ c ∧ CellAt (pushCells (s.heap.push { cls := .type "dict", data := .dict #[] }) scope.names) c none) := fun {y c} e => by
    rw [hcl] at e
    rcases cells_mem (PySem.mem_of_lookup e) with hm | ⟨_, h2, h3⟩
    · exact .inl (cm hm)
    · rw [Heap.size_push] at h2; exact .inr ⟨h2, h3⟩
  have look : ∀ {y}, scope.names.lookup y = some .free → ∃ c, cenv.cells.lookup y = some c ∧ X.env.cells.lookup y = some c := fun {y} hl => by
    have hy : (y, NameKind.free) ∈ scope.names := PySem.mem_of_lookup hl
    obtain ⟨c', e'⟩ := mem_lookup (cells_acc (names := scope.names) (n := (s.heap.push { cls := .type "dict", data := .dict #[] }).objs.size) (cloFrom_has (cells := X.env.cells) (acc := []) hy))
    rw [← hcl] at e'
    refine ⟨c', e', ?_⟩
    rw [hcl] at e'
    rcases cells_mem (PySem.mem_of_lookup e') with hm | ⟨h1, _, _⟩
    · exact (cm hm).1
    · have := ok.uniq _ h1
      rw [hl] at this; cases this
  have okB : (X.blk s H scope cenv fp).Ok := by
    refine ⟨I.ok.mod, by show cenv.scope.kind = _; rw [hsc]; exact ok.kind, by show cenv.globals = _; rw [← hcenv]; exact I.ok.glob, by show cenv.builtins = _; rw [← hcenv]; exact I.ok.blt, by show s.heap.objs.size ≤ cenv.locals; rw [hL]; exact Nat.le_refl _,
      fun y z c e1 e2 => ?_, fun y hy => ?_, fun y c z e => ?_, I.ok.hd, I.ok.frames, .inl rfl, fun b hb => ⟨?_, fun y c e z => ?_⟩, I.bs, Nat.le_trans I.ok.bsz I.sz, fun b o e hb => ?_, fun b hb z => ?_, I.stack, I.stkFree⟩
    · have e1 : cenv.cells.lookup y = some c := e1
      have e2 : cenv.cells.lookup z = some c := e2
      rw [hcl] at e1 e2
      refine cells_inj (fun p hp => ?_) (fun y z c a b => I.ok.inj y z c (cm a).1 (cm b).1) (PySem.mem_of_lookup e1) (PySem.mem_of_lookup e2)
      rw [Heap.size_push]
      exact Nat.lt_succ_of_lt (cm (y := p.1) (c := p.2) hp).2
    · show ∃ c, cenv.cells.lookup y = some c
      have key : ∀ k, cenv.kindOf y = some k → (k = .cell ∨ k = .free) → ∃ c, cenv.cells.lookup y = some c := fun k hk hk' => by
        unfold Env.kindOf at hk
        rw [hsc] at hk
        obtain ⟨k', e, r⟩ := lookup_relS hk
        have : k' = .cell ∨ k' = .free := by
          rcases r with rfl | ⟨rfl, _⟩
          · exact hk'
          · exact .inr rfl
        rcases this with rfl | rfl
        · obtain ⟨c, hm⟩ := cells_has (n := (s.heap.push { cls := .type "dict", data := .dict #[] }).objs.size) (acc := cloFrom X.env.cells scope.names []) (PySem.mem_of_lookup e)
          obtain ⟨c', e'⟩ := mem_lookup hm
          exact ⟨c', by rw [hcl]; exact e'⟩
        · obtain ⟨c, h1, _⟩ := look e
          exact ⟨c, h1⟩
      rcases hy with hy | hy
      · exact key _ hy (.inl rfl)
      · exact key _ hy (.inr rfl)
    · have z : (scope.names.lookup y == some NameKind.cell) = true := z
      have z : scope.names.lookup y = some .cell := by simpa using z
      have e : cenv.cells.lookup y = some c := e
      rw [hcl] at e
      rcases cells_mem (PySem.mem_of_lookup e) with hm | ⟨_, h2, _⟩
      · rcases cloFrom_mem hm with hm | ⟨h1, _⟩
        · cases hm
        · have q := ok.uniq _ h1
          rw [z] at q; cases q
      · rw [Heap.size_push] at h2
        exact Nat.le_of_succ_le h2
    · show b ≠ cenv.locals
      rw [hL]; exact Nat.ne_of_lt (hfp b hb).2
    · have e : cenv.cells.lookup y = some c := e
      rcases mem e with ⟨h1, _⟩ | ⟨h1, _⟩
      · exact (hfp b hb).1.2.2.2.2.1 y c h1 z
      · have h2 : s.heap.objs.size + 1 ≤ b := by rw [← z]; exact h1
        exact absurd (Nat.lt_of_lt_of_le (hfp b hb).2 (Nat.le_of_succ_le h2)) (Nat.lt_irrefl _)
    · rcases (hfp b hb).1.2.2.2.1 with z | z
      · exact I.ok.noex b o e z
      · exact absurd (Nat.lt_of_lt_of_le (Heap.lt_size e) (Nat.le_trans I.ok.bsz z)) (Nat.lt_irrefl _)
    · rcases List.mem_cons.mp (I.stkSub b z) with z | z
      · exact (hfp b hb).1.2.1 z
      · exact (hfp b hb).1.2.2.1 z
  refine ⟨okB, rfl, I.bare, Un.kept kp, ⟨fun _ => none, ?_, fun i y av e1 e2 e3 => ?_⟩, fun y c e => ?_, ?_, fun y c e => ?_, fun p hp => ?_, I.hok.kept kp, by rw [wipe_length]; exact I.len⟩
  · show Heap.Ns _ cenv.locals _
    rw [hL]
    exact Heap.Ns.keeps (Heap.Ns.new ..) fun b o e => pushCells_keeps _ _ _ _ e
  · obtain ⟨e2, hne⟩ := wipe_some e2
    have hfr : scope.names.lookup y = some .free ∧ (cenv.kindOf y = some .cell ∨ cenv.kindOf y = some .free) := by
      have key : ∀ k, cenv.scope.names.lookup y = some k → k = .local ∨ k = .cell ∨ k = .free → scope.names.lookup y = some .free ∧ (cenv.kindOf y = some .cell ∨ cenv.kindOf y = some .free) := fun k hk hk' => by
        have hk0 := hk
        rw [hsc] at hk
        obtain ⟨k', e, r⟩ := lookup_relS hk
        have no : ¬ (k' = .local ∨ k' = .cell) := fun hh => by
          rcases ok.own _ (PySem.mem_of_lookup e) hh with e' | e'
          · obtain ⟨p, hp, hpy⟩ := List.mem_map.mp e'
            have e3 := ok.ix p hp
            have : p.1 = y := hpy
            rw [this] at e3
            exact hne (List.mem_map.mpr ⟨p, hp, nodup_ix hN e3 e1⟩)
          · exact e' (List.mem_of_getElem? e1)
        rcases r with rfl | ⟨rfl, rfl⟩
        · rcases hk' with rfl | rfl | rfl
          · exact absurd (.inl rfl) no
          · exact absurd (.inr rfl) no
          · exact ⟨e, .inr hk0⟩
        · exact ⟨e, .inl hk0⟩
      have e3 : Vis cenv.scope y := e3
      rcases e3 with e3 | e3 | e3
      · exact key _ e3 (.inl rfl)
      · exact key _ e3 (.inr (.inl rfl))
      · exact key _ e3 (.inr (.inr rfl))
    obtain ⟨m, hn, hl⟩ := I.loc
    have hvis : Vis X.env.scope y := (ok.free _ (PySem.mem_of_lookup hfr.1) rfl).elim (fun k => .inr (.inl k)) (fun k => .inr (.inr k))
    obtain ⟨w, r, q⟩ := hl i y av e1 e2 hvis
    refine ⟨w, r, .inr ⟨hfr.2, ?_⟩⟩
    obtain ⟨c, h1, h2⟩ := look hfr.1
    rcases q with ⟨k, _⟩ | ⟨_, c', e', z⟩
    · have k : X.env.scope.names.lookup y = some .local := k
      rcases ok.free _ (PySem.mem_of_lookup hfr.1) rfl with k' | k' <;> rw [show X.env.scope.names.lookup y = _ from k'] at k <;> cases k
    · rw [h2] at e'; cases e'
      exact ⟨c, h1, z.keeps kp⟩
  · have e : cenv.cells.lookup y = some c := e
    rcases mem e with ⟨h1, _⟩ | ⟨_, z⟩
    · obtain ⟨w, z⟩ := I.cell y c h1
      exact ⟨w, z.keeps kp⟩
    · exact ⟨_, z⟩
  · show H cenv.locals = none
    rw [hL]; exact I.hok.fresh (Nat.le_refl _)
  · have e : cenv.cells.lookup y = some c := e
    rcases mem e with ⟨h1, _⟩ | ⟨h1, _⟩
    · exact I.freeC y c h1
    · exact I.hok.fresh (Nat.le_of_succ_le h1)
  · exact absurd (show p ∈ ([] : List (Addr × Obj)) ++ [] from hp) (by simp)
theorem app_ok {E : Value → Shared → Prop} {D : Addr} {xs : List V} {y : V} {v : Value} {Q : Value → Shared → Prop} (I : Inv X pins σ H s) (hD : H D = some (.lst xs)) (hz : xs.length < sizeLine) (r : RelV y v)
    (h : ∀ s', Inv X pins σ (upd H D (.lst (xs ++ [y]))) s' → Q .none s') : wpAny (model X.prog X.w) X.A (call (.builtin "list.append") [.ref D, v]) Q E s := by
  obtain ⟨hz', its, n, ri, e⟩ := I.hok D _ hD
  have hl := ri.length
  refine append_at (hsz := by rw [List.size_toArray]; omega) e fun h' sb ho' => ?_
  refine h { s with heap := h' } (I.write (t' := s.toks) (by rw [hD]; trivial) (.inl rfl) (fun b u hb q => (sb.2 b hb).trans q) ⟨_, ho'⟩ ⟨by rw [List.length_append]; exact hz, its ++ [v], n + 1, ri.append (.cons r .nil), ?_⟩)
  rw [ho']
  simp
def PTs (X : Cx) (ifs : List Expr) (t : TT) : Prop :=
  ∀ (pins : List (Addr × Obj)) (s : Shared) (σ : St) (H : Hp) (Q : Bool → Hp → Prop), Inv X pins σ H s → t σ H Q →
    wpAny (model X.prog X.w) X.A (forIn ifs true fun c r => if r = true then do let ok ← isTrue c X.env (eval c X.env); pure (ForInStep.yield ok) else pure (ForInStep.yield r)) (TP X pins σ Q) X.xe s
def tYes : TT := fun _ H Q => Q true H
theorem pts_nil : PTs X [] tYes := fun _ _ _ H _ I h => wpAny_tests_nil ⟨H, I, h⟩
theorem pts_one {c : Expr} {t : TT} (h : PT X c t) : PTs X [c] t := fun pins s σ H Q I hw => wpAny_tests_one (h pins s σ H Q I hw)
end
theorem thnF {α : Type} {t : Sem α} {Q Q' : α → Shared → Prop} {M : Model} {A : Around} {E : Value → Shared → Prop} {s : Shared} (h : wpAny M A t Q (fun _ _ => False) s) (hQ : ∀ a s, Q a s → Q' a s) : wpAny M A t Q' E s := wpAny_mono h hQ fun _ _ z => False.elim z
theorem compLoop_any {prog : Program} {w : World} {A : Around} {R : Result → Shared → Prop} {s : Shared} {elt target iter : Expr} {ifs : List Expr} {scope : Scope} {pos : Pos} {it acc : Value} {env : Env} (I : Nat → Shared → Prop)
    (turn : ∀ n s, I n s → wpAny (model prog w) A (pyNext it) (fun r s₁ => match r with
      | none => R (.ok .next) s₁
      | some v => wpAny (model prog w) A (letOwnedTupleGo target it v) (fun _ s₁' => wpAny (model prog w) A (assign target env v) (fun _ s₂ =>
          wpAny (model prog w) A (forIn ifs true fun c r => if r = true then do let ok ← isTrue c env (eval c env); pure (ForInStep.yield ok) else pure (ForInStep.yield r)) (fun ok s₃ =>
            if ok = true then wpAny (model prog w) A (eval elt env) (fun x s₄ =>
              wpAny (model prog w) A (call (.builtin "list.append") [acc, x]) (fun _ s₅ => ∃ m, m < n ∧ I m s₅) (notedBy (model prog w) A env fun e s' => R (.error e) s') s₄) (notedBy (model prog w) A env fun e s' => R (.error e) s') s₃
            else ∃ m, m < n ∧ I m s₃) (notedBy (model prog w) A env fun e s' => R (.error e) s') s₂) (notedBy (model prog w) A env fun e s' => R (.error e) s') s₁') (notedBy (model prog w) A env fun e s' => R (.error e) s') s₁) (notedBy (model prog w) A env fun e s' => R (.error e) s') s)
    (n : Nat) (h : I n s) :
    codeAny (model prog w) A (.compLoop (.ListComp elt [⟨target, iter, ifs, 0⟩] scope pos) 0 it acc env) R s := by
  refine codeAny_loop rfl I (fun n s hI => ?_) n h
  show wpAny _ A ((compTurn (.ListComp elt [⟨target, iter, ifs, 0⟩] scope pos) 0 it acc env).onRaise (fun x => do noteFrame x env; theTreesLotGoes x)) _ _ s
  refine wpAny_noted ?_
  rw [compTurn_list]
  refine wpAny_bind (wpAny_standAt (wpAny_bind (wpAny_mono (turn n s hI) (fun r s₁ h₁ => ?_) fun _ _ h' => h')))
  cases r with
  | none => exact wpAny_pure h₁
  | some v =>
    refine wpAny_bind (wpAny_mono h₁ (fun _ s₁' h₁' => ?_) fun _ _ h' => h')
    refine wpAny_bind (wpAny_mono h₁' (fun _ s₂ h₂ => wpAny_bind (wpAny_mono h₂ (fun ok s₃ h₃ => ?_) fun _ _ h' => h')) fun _ _ h' => h')
    cases ok with
    | false => exact wpAny_pure ⟨rfl, h₃⟩
    | true =>
      exact wpAny_bind (wpAny_bind (wpAny_mono h₃ (fun x s₄ h₄ => wpAny_bind (wpAny_mono h₄ (fun _ s₅ h₅ => wpAny_pure (wpAny_pure ⟨rfl, h₅⟩)) fun _ _ h' => h')) fun _ _ h' => h'))
section
variable {X : Cx}
def tLc (wi : TI) (g : TG) (tt : TT) (te : TE) (vs : List Nat) : TE := fun σ H Q => wi σ H fun J H1 => ∀ D, H1 D = none → ∃ W : Nat → Nat → Hp → Prop, (∃ m, W 0 m (upd H1 D (.lst []))) ∧ ∀ i m H, W i m H →
  (J.stop i H ∧ Q (.ref D) H) ∨ (J.go i H ∧ ∃ Nx : Hp → Prop, (∀ H', Nx H' → ∃ m', m' < m ∧ W (i + 1) m' H') ∧ ∀ x H', J.yld i H x H' → g x (wipe σ vs) H' fun σ2 H2 => wipe σ2 vs = wipe σ vs ∧ tt σ2 H2 fun b H3 =>
    if b = true then te σ2 H3 fun y H4 => ∃ acc, H4 D = some (.lst acc) ∧ acc.length < sizeLine ∧ Nx (upd H4 D (.lst (acc ++ [y]))) else Nx H3)
theorem lc_core {pins : List (Addr × Obj)} {s : Shared} {σ : St} {H : Hp} {Q : VK} {elt tg iter : Expr} {ifs : List Expr} {scope : Scope} {own : List (Str × Nat)} {pos pos' : Pos} {wi : TI} {g : TG} {tt : TT} {te : TE} {use : Option (Value → Sem Unit)} {Qf : Value → Shared → Prop}
    (hc : X.calm = true) (hN : X.N.Nodup) (I : Inv X pins σ H s) (hi : PI X tg iter wi) (ok : BlkOk X.N X.env.scope scope own)
    (hg : ∀ (s : Shared) (H : Hp) (C : Addr) (cl : List (Str × Addr)) (fp : List Addr), PG (X.blk s H scope (compEnvC scope cl C X.env) fp) tg g) (ht : ∀ (s : Shared) (H : Hp) (C : Addr) (cl : List (Str × Addr)) (fp : List Addr), PTs (X.blk s H scope (compEnvC scope cl C X.env) fp) ifs tt)
    (he : ∀ (s : Shared) (H : Hp) (C : Addr) (cl : List (Str × Addr)) (fp : List Addr), PE (X.blk s H scope (compEnvC scope cl C X.env) fp) elt te) (hs : ∀ x, foldedSetIterable iter X.env x = pure x)
    (h : tLc wi g tt te (own.map (·.2)) σ H Q)
    (hRR : ∀ D C s' m H', Inv X pins σ H' s' → Q (.ref D) H' → s'.heap.Ns C m → FpOk X pins H' C → compPost (model X.prog X.w) X.A X.xe use Qf (.ref D) C (.ok .next) s') :
    wpAny (model X.prog X.w) X.A (comprehension (.ListComp elt [⟨tg, iter, ifs, 0⟩] scope pos) scope X.env pos' (newList []) false (eval iter X.env) use) Qf X.xe s := by
  have hfree : ∀ y ∈ scope.names, y.2 = .free → ∃ c, X.env.cells.lookup y.1 = some c := fun y hy e => by
    rcases ok.free y hy e with k | k
    · exact I.ok.has _ (.inl k)
    · exact I.ok.has _ (.inr k)
  refine wpAny_comprehension_free (use := use) rfl hs (closure_ok hfree) ok.kind (fun y hy e => by rw [ok.uniq y hy, e])
    (thn (hi pins s σ H _ I h) fun xv s1 hx => thn hx fun itv s2 h2 => ?_)
  obtain ⟨it, fp, tn, J, H2, e, I2, T, st2, f2, q⟩ := h2
  subst e
  refine wpAny_newObj_type (newEnv_comp ?_) (by show 0 ≤ sizeLine; decide)
  generalize hD : s2.heap.objs.size = D
  have hDn : H2 D = none := I2.hok.fresh (Nat.le_of_eq hD)
  obtain ⟨W, ⟨m0, w0⟩, turn⟩ := q D hDn
  generalize hs3 : ({ s2 with heap := s2.heap.push { cls := .type "list", data := .seq ([] : List Value).toArray } } : Shared) = s3
  have I3 : Inv X pins σ (upd H2 D (.lst [])) s3 := by
    rw [← hs3]
    refine I2.laid (t' := s2.toks) (fun b o e => Heap.get?_push_of_some _ e) (Nat.le_of_eq hD) ⟨Nat.zero_le _, [], 0, .nil, ?_⟩
    rw [← hD]
    exact Heap.get?_push_size _ rfl
  have h3 : s3.heap = s2.heap.push { cls := .type "list", data := .seq ([] : List Value).toArray } := by rw [← hs3]
  have sz : ∀ b ∈ fp, b < s2.heap.objs.size := fun b hb => by
    obtain ⟨o, e, _⟩ := T.obj _ _ st2 b hb
    exact Heap.lt_size e
  have f3 : ∀ b ∈ fp, FpOk X pins (upd H2 D (.lst [])) b ∧ b < s3.heap.objs.size := fun b hb => by
    have hlt := sz b hb
    refine ⟨⟨?_, (f2 b hb).2⟩, by rw [h3, Heap.size_push]; exact Nat.lt_succ_of_lt hlt⟩
    rw [upd_ne (by rw [← hD]; exact Nat.ne_of_lt hlt)]
    exact (f2 b hb).1
  have st3 : tn 0 s3.heap := T.keep _ _ _ st2 fun b _ o e => by rw [h3]; exact Heap.get?_push_of_some _ e
  have I4 := block_start I3 ok hN f3
  have pg := hg s3 (upd H2 D (.lst [])) s3.heap.objs.size (cellsFrom (s3.heap.objs.size + 1) scope.names (cloFrom X.env.cells scope.names [])) fp
  have pt := ht s3 (upd H2 D (.lst [])) s3.heap.objs.size (cellsFrom (s3.heap.objs.size + 1) scope.names (cloFrom X.env.cells scope.names [])) fp
  have pe := he s3 (upd H2 D (.lst [])) s3.heap.objs.size (cellsFrom (s3.heap.objs.size + 1) scope.names (cloFrom X.env.cells scope.names [])) fp
  show codeAny _ _ (.compStart (.ListComp elt [⟨tg, iter, ifs, 0⟩] scope pos) 0 (.ref it) (.ref D) (compEnvC scope (cellsFrom (s3.heap.objs.size + 1) scope.names (cloFrom X.env.cells scope.names [])) s3.heap.objs.size X.env)) (compPost (model X.prog X.w) X.A X.xe use Qf (.ref D) s3.heap.objs.size) { s3 with heap := pushCells (s3.heap.push { cls := .type "dict", data := .dict #[] }) scope.names }
  have nfp : ∀ b ∈ fp, (upd H2 D (.lst [])) b = none := fun b hb => (f3 b hb).1.1
  generalize hce : compEnvC scope (cellsFrom (s3.heap.objs.size + 1) scope.names (cloFrom X.env.cells scope.names [])) s3.heap.objs.size X.env = ce at I4 pg pt pe ⊢
  have cL : ce.locals = s3.heap.objs.size := by subst hce; rfl
  generalize hH3 : upd H2 D (.lst []) = H3 at I3 I4 pg pt pe w0 nfp f3
  generalize hs4 : ({ s3 with heap := pushCells (s3.heap.push { cls := .type "dict", data := .dict #[] }) scope.names } : Shared) = s4 at I4 ⊢
  have st4 : tn 0 s4.heap := T.keep _ _ _ st3 fun b _ o e => by rw [← hs4]; exact pushCells_keeps _ _ _ _ (Heap.get?_push_of_some _ e)
  have stat : ∀ {σ' : St} {H' : Hp} {s' : Shared}, Inv (X.blk s3 H3 scope ce fp) [] σ' H' s' → (∀ b ∈ fp, H' b = none) → ∀ b ∈ fp, FpOk (X.blk s3 H3 scope ce fp) [] H' b := fun {σ' H' s'} I' hn b hb =>
    ⟨hn b hb, (I'.ok.exf b hb).1, I'.ok.exfs b hb, .inl hb, fun x c e => (I'.ok.exf b hb).2 x c e, fun p hp => absurd (show p ∈ ([] : List (Addr × Obj)) ++ [] from hp) (by simp)⟩
  have loop : codeAny (model X.prog X.w) X.A (.compLoop (.ListComp elt [⟨tg, iter, ifs, 0⟩] scope pos) 0 (.ref it) (.ref D) ce) (compPost (model X.prog X.w) X.A X.xe use Qf (.ref D) s3.heap.objs.size) s4 := by
    refine compLoop_any (fun n s' => ∃ i H', Inv (X.blk s3 H3 scope ce fp) [] (wipe σ (own.map (·.2))) H' s' ∧ tn i s'.heap ∧ (∀ b ∈ fp, H' b = none) ∧ W i n H') ?_ m0 ⟨0, H3, I4, st4, nfp, w0⟩
    rintro n s5 ⟨i, H5, I5, st5, n5, w5⟩
    rcases turn i n H5 w5 with ⟨stop, qq⟩ | ⟨go, Nx, hNx, step⟩
    · have td := T.done (X.blk s3 H3 scope ce fp) rfl rfl rfl hc i [] s5 _ H5 (fun _ _ => False) I5 (stat I5 n5) st5 stop
      refine thnF td fun r s6 ⟨hr, I6⟩ => ?_
      subst hr
      have I7 : Inv X pins σ H5 s6 := I3.call' (ch := fp) I6.os I6.base I6.hok I6.bare fun b hb => ⟨(f3 b hb).1.2.2.2.1, (f3 b hb).1.2.1, (f3 b hb).1.2.2.2.2.1, (f3 b hb).1.2.2.2.2.2⟩
      have nC : H5 s3.heap.objs.size = none := by
        have z : H5 ce.locals = none := I6.free
        rw [cL] at z
        exact z
      obtain ⟨m, hn, _⟩ := I6.loc
      have hn : s6.heap.Ns ce.locals m := hn
      rw [cL] at hn
      exact hRR D s3.heap.objs.size s6 m H5 I7 qq hn (I3.fpOk (Nat.le_refl _) nC)
    · have ti := T.item (X.blk s3 H3 scope ce fp) rfl rfl rfl hc i [] s5 _ H5 (fun _ _ => False) I5 (stat I5 n5) st5 go
      refine thnF ti fun r s6 ⟨u, hr, h6⟩ => ?_
      subst hr
      refine thnF h6 fun _ s7 ⟨x, H7, I7, r7, y7, st7, n7⟩ => ?_
      have I7' := I7.pinned (stat I7 n7) (T.obj _ _ st7)
      refine thnF (pg _ s7 _ H7 x u _ I7' r7 (step x H7 y7)) fun _ s8 ⟨σ8, H8, I8, hw8, q8⟩ => ?_
      refine thnF (pt _ s8 σ8 H8 _ I8 q8) fun b s9 ⟨H9, I9, q9⟩ => ?_
      have fin : ∀ {s' : Shared} {H' : Hp}, Inv (X.blk s3 H3 scope ce fp) ([] ++ pinsAt fp s7.heap) σ8 H' s' → Nx H' → ∃ m, m < n ∧ ∃ i H', Inv (X.blk s3 H3 scope ce fp) [] (wipe σ (own.map (·.2))) H' s' ∧ tn i s'.heap ∧ (∀ b ∈ fp, H' b = none) ∧ W i m H' := fun {s' H'} I' nx => by
        obtain ⟨m', hm, w'⟩ := hNx H' nx
        have pin' : ∀ b ∈ fp, ∀ o, s7.heap.get? b = some o → s'.heap.get? b = some o ∧ H' b = none := fun b hb o e =>
          let z := I'.pin (b, o) (List.mem_append_right _ (List.mem_append_right _ (mem_pinsAt hb e)))
          ⟨z.1, z.2.1⟩
        have hl : (wipe σ (own.map (·.2))).length = σ8.length := by rw [← hw8, wipe_length]
        refine ⟨m', hm, i + 1, H', (I'.unpinned (pins := [])).weak hl (fun j v e => ?_), T.keep _ _ _ st7 fun b hb o e => (pin' b hb o e).1, fun b hb => ?_, w'⟩
        · rw [← hw8] at e
          exact (wipe_some e).1
        · obtain ⟨o, e, _⟩ := T.obj _ _ st7 b hb
          exact (pin' b hb o e).2
      cases b with
      | false =>
        simp only [Bool.false_eq_true, if_false] at q9 ⊢
        exact fin I9 q9
      | true =>
        simp only [if_true] at q9 ⊢
        refine thnF (pe _ s9 σ8 H9 _ I9 q9) fun z s10 ⟨yv, H10, I10, r10, acc, hD10, hz10, nx⟩ => ?_
        exact app_ok (X := X.blk s3 H3 scope ce fp) I10 hD10 hz10 r10 fun s11 I11 => fin I11 nx
  exact codeAny_compStart_list loop (T.self X.A 0 _ _ _ st4 loop)
theorem pe_lc {elt tg iter : Expr} {ifs : List Expr} {scope : Scope} {own : List (Str × Nat)} {pos : Pos} {wi : TI} {g : TG} {tt : TT} {te : TE} (hc : X.calm = true) (hN : X.N.Nodup) (hi : PI X tg iter wi) (ok : BlkOk X.N X.env.scope scope own)
    (hg : ∀ (s : Shared) (H : Hp) (C : Addr) (cl : List (Str × Addr)) (fp : List Addr), PG (X.blk s H scope (compEnvC scope cl C X.env) fp) tg g) (ht : ∀ (s : Shared) (H : Hp) (C : Addr) (cl : List (Str × Addr)) (fp : List Addr), PTs (X.blk s H scope (compEnvC scope cl C X.env) fp) ifs tt)
    (he : ∀ (s : Shared) (H : Hp) (C : Addr) (cl : List (Str × Addr)) (fp : List Addr), PE (X.blk s H scope (compEnvC scope cl C X.env) fp) elt te) (hs : ∀ x, foldedSetIterable iter X.env x = pure x := by intro _; rfl) :
    PE X (.ListComp elt [⟨tg, iter, ifs, 0⟩] scope pos) (tLc wi g tt te (own.map (·.2))) := by
  intro pins s σ H Q I h
  rw [eval_ListComp]
  refine lc_core hc hN I hi ok hg ht he hs h fun D C s' m H' I' q hn f => ⟨m, hn, fun h'' sb => ?_⟩
  obtain ⟨f0, f1, f2, f3, f4, f5⟩ := f
  exact ⟨.ref D, H', I'.turned (t' := s'.toks) (fun b o hb e => (sb.2 b hb).trans e) f0 f1 f3 f4 f5, rfl, q⟩
theorem ps_setLc {i : Nat} {y : Str} {py : Pos} {elt tg iter : Expr} {ifs : List Expr} {scope : Scope} {own : List (Str × Nat)} {pos spos : Pos} {wi : TI} {g : TG} {tt : TT} {te : TE} (hc : X.calm = true) (hN : X.N.Nodup) (hy : X.N[i]? = some y) (hyl : X.env.scope.names.lookup y = some .local)
    (hsw : swapsWith (.ListComp elt [⟨tg, iter, ifs, 0⟩] scope pos) (some (.Name y py)) spos.line X.env = pure true) (hi : PI X tg iter wi) (ok : BlkOk X.N X.env.scope scope own)
    (hg : ∀ (s : Shared) (H : Hp) (C : Addr) (cl : List (Str × Addr)) (fp : List Addr), PG (X.blk s H scope (compEnvC scope cl C X.env) fp) tg g) (ht : ∀ (s : Shared) (H : Hp) (C : Addr) (cl : List (Str × Addr)) (fp : List Addr), PTs (X.blk s H scope (compEnvC scope cl C X.env) fp) ifs tt)
    (he : ∀ (s : Shared) (H : Hp) (C : Addr) (cl : List (Str × Addr)) (fp : List Addr), PE (X.blk s H scope (compEnvC scope cl C X.env) fp) elt te) (hs : ∀ x, foldedSetIterable iter X.env x = pure x := by intro _; rfl) :
    PS X (.Assign [.Name y py] (.ListComp elt [⟨tg, iter, ifs, 0⟩] scope pos) spos) (tAsg (tLc wi g tt te (own.map (·.2))) (gName i)) := by
  intro pins s σ H D I h
  rw [exec_Assign_Name_used _ _ _ _ hsw]
  refine wpAny_bind (wpAny_standAt (wpAny_bind ?_))
  show wpAny _ X.A (do let _ ← comprehension (.ListComp elt [⟨tg, iter, ifs, 0⟩] scope pos) scope X.env (firstIterPos [⟨tg, iter, ifs, 0⟩] pos) (newList []) false (eval iter X.env) (some (assign (.Name y py) X.env))) _ _ s
  have h : tLc wi g tt te (own.map (·.2)) σ H (fun x H1 => gName i x σ H1 D.nx) := h
  refine wpAny_bind (thn (lc_core (Qf := fun _ s' => SP X pins D .next s') hc hN I hi ok hg ht he hs h fun L C s' m H' I' q hn f => ?_) fun _ s' hq => wpAny_pure (wpAny_pure hq))
  show wpAny _ _ (assign (.Name y py) X.env (.ref L)) _ _ _
  refine wpAny_assign_Name (store_ok2 (v := V.ref L) I' hN hy (.inl hyl) rfl (fun s2 I2 ⟨a, sb, ha⟩ => ?_) (.inr hyl))
  obtain ⟨f0, f1, f2, f3, f4, f5⟩ := f
  have haC : C ≠ a := by
    rcases ha with z | z
    · rw [z]; exact f1
    · exact fun e => f4 y a z e.symm
  refine ⟨m, hn.sameBut sb haC, fun h3 sb3 => ?_⟩
  exact ⟨_, H', I2.turned (t' := s2.toks) (fun b o hb e => (sb3.2 b hb).trans e) f0 f1 f3 f4 f5, q⟩
end
theorem lc_range {lo : Int} {n : Nat} {g : TG} {tt : TT} {te : TE} {vs : List Nat} {σ : St} {H1 : Hp} {D : Addr} {Qd : Hp → Prop} (Pv : Nat → Hp → Prop) (h0 : Pv 0 (upd H1 D (.lst [])))
    (hs : ∀ i H, i < n → Pv i H → g (.int (lo + i)) (wipe σ vs) H fun σ2 H2 => wipe σ2 vs = wipe σ vs ∧ tt σ2 H2 fun b H3 =>
      if b = true then te σ2 H3 fun y H4 => ∃ acc, H4 D = some (.lst acc) ∧ acc.length < sizeLine ∧ Pv (i + 1) (upd H4 D (.lst (acc ++ [y]))) else Pv (i + 1) H3) (hd : ∀ H, Pv n H → Qd H) :
    ∃ W : Nat → Nat → Hp → Prop, (∃ m, W 0 m (upd H1 D (.lst []))) ∧ ∀ i m H, W i m H →
      ((Itr lo n).stop i H ∧ Qd H) ∨ ((Itr lo n).go i H ∧ ∃ Nx : Hp → Prop, (∀ H', Nx H' → ∃ m', m' < m ∧ W (i + 1) m' H') ∧ ∀ x H', (Itr lo n).yld i H x H' → g x (wipe σ vs) H' fun σ2 H2 => wipe σ2 vs = wipe σ vs ∧ tt σ2 H2 fun b H3 =>
        if b = true then te σ2 H3 fun y H4 => ∃ acc, H4 D = some (.lst acc) ∧ acc.length < sizeLine ∧ Nx (upd H4 D (.lst (acc ++ [y]))) else Nx H3) := by
  refine ⟨fun i m H => m = n - i ∧ i ≤ n ∧ Pv i H, ⟨n, by simp, Nat.zero_le _, h0⟩, ?_⟩
  rintro i m H ⟨rfl, hi, p⟩
  by_cases hlt : i < n
  · refine .inr ⟨hlt, Pv (i + 1), fun H' p' => ⟨n - (i + 1), by omega, rfl, hlt, p'⟩, fun x H' y => ?_⟩
    obtain ⟨e, y⟩ := y
    subst e y
    exact hs i _ hlt p
  · have e : i = n := by omega
    subst e
    exact .inl ⟨Nat.le_refl _, hd H p⟩
theorem lc_list {K : PySem.W.Frag} {a : Addr} {xs : List V} {g : TG} {tt : TT} {te : TE} {vs : List Nat} {σ : St} {H1 : Hp} {D : Addr} {Qd : Hp → Prop} (Pv : Nat → Hp → Prop) (h0 : Pv 0 (upd H1 D (.lst []))) (hl : ∀ i H, i ≤ xs.length → Pv i H → SqL K H a xs)
    (hs : ∀ i x H, xs[i]? = some x → Pv i H → g x (wipe σ vs) H fun σ2 H2 => wipe σ2 vs = wipe σ vs ∧ tt σ2 H2 fun b H3 =>
      if b = true then te σ2 H3 fun y H4 => ∃ acc, H4 D = some (.lst acc) ∧ acc.length < sizeLine ∧ Pv (i + 1) (upd H4 D (.lst (acc ++ [y]))) else Pv (i + 1) H3) (hd : ∀ H, Pv xs.length H → Qd H) :
    ∃ W : Nat → Nat → Hp → Prop, (∃ m, W 0 m (upd H1 D (.lst []))) ∧ ∀ i m H, W i m H →
      ((Itl K a).stop i H ∧ Qd H) ∨ ((Itl K a).go i H ∧ ∃ Nx : Hp → Prop, (∀ H', Nx H' → ∃ m', m' < m ∧ W (i + 1) m' H') ∧ ∀ x H', (Itl K a).yld i H x H' → g x (wipe σ vs) H' fun σ2 H2 => wipe σ2 vs = wipe σ vs ∧ tt σ2 H2 fun b H3 =>
        if b = true then te σ2 H3 fun y H4 => ∃ acc, H4 D = some (.lst acc) ∧ acc.length < sizeLine ∧ Nx (upd H4 D (.lst (acc ++ [y]))) else Nx H3) := by
  refine ⟨fun i m H => m = xs.length - i ∧ i ≤ xs.length ∧ Pv i H, ⟨xs.length, by simp, Nat.zero_le _, h0⟩, ?_⟩
  rintro i m H ⟨rfl, hi, p⟩
  have q := hl i H hi p
  by_cases hlt : i < xs.length
  · refine .inr ⟨⟨xs, xs[i], q, by simp [hlt]⟩, Pv (i + 1), fun H' p' => ⟨xs.length - (i + 1), by omega, rfl, hlt, p'⟩, fun x H' y => ?_⟩
    obtain ⟨e, y⟩ := y
    subst e
    exact hs i x _ (y xs q) p
  · have e : i = xs.length := by omega
    subst e
    exact .inl ⟨⟨xs, q, Nat.le_refl _⟩, hd H p⟩
def blkC (N : List Str) (sc scope : Scope) (own : List (Str × Nat)) : Bool :=
  (match scope.kind with | .function => true | _ => false) && (scope.names.all fun y => decide (scope.names.lookup y.1 = some y.2)) && (own.all fun p => decide (N[p.2]? = some p.1)) &&
    (scope.names.all fun y => match y.2 with
      | .free => (match sc.names.lookup y.1 with | some .cell => true | some .free => true | _ => false)
      | .local => decide (y.1 ∈ own.map (·.1)) || decide (y.1 ∉ N)
      | .cell => decide (y.1 ∈ own.map (·.1)) || decide (y.1 ∉ N)
      | _ => true)
theorem blkOk_by {N : List Str} {sc scope : Scope} {own : List (Str × Nat)} (h : blkC N sc scope own = true) : BlkOk N sc scope own := by
  unfold blkC at h
  simp only [Bool.and_eq_true, List.all_eq_true, decide_eq_true_eq] at h
  obtain ⟨⟨⟨h1, h2⟩, h3⟩, h4⟩ := h
  refine ⟨?_, h2, h3, fun y hy e => ?_, fun y hy e => ?_⟩
  · split at h1
    · assumption
    · cases h1
  · have q := h4 y hy
    simp only [e] at q
    split at q <;> first | exact .inl (by assumption) | exact .inr (by assumption) | cases q
  · have q := h4 y hy
    rcases e with e | e <;> (simp only [e, Bool.or_eq_true, decide_eq_true_eq] at q; exact q)
end L2
namespace L2
open PySem PySem.Spec PyProof.Rows
section
variable {prog : Program} {w : World} {A : Around} {R : Result → Shared → Prop} {s : Shared} {elt t0 i0 t1 i1 : Expr} {ifs0 ifs1 : List Expr} {scope : Scope} {pos : Pos} {it acc : Value} {env : Env}
end
section
variable {X : Cx}
end
end L2
namespace L2
open PySem PySem.Spec PyProof.Rows
section
variable {κ : Type} [DecidableEq κ]
end
section
variable {P : Program} {w : World} {H : Hp} {h : Heap} {a : Addr}
end
section
variable {X : Cx} {pins : List (Addr × Obj)} {σ : St} {H : Hp} {s : Shared} {a : Addr} {y v : V} {u r : Value} {o : Option V} {A : Around} {E : Value → Shared → Prop}
end
section
variable {X : Cx} {pins : List (Addr × Obj)} {σ : St} {H : Hp} {s : Shared} {a : Addr} {kvs : List (Key × V)} {k : Key} {u : Value} {A : Around} {E : Value → Shared → Prop}
end
section
variable {X : Cx} {o i e value : Expr} {pos pos' tpos : Pos} {td ty tv : TE}
end
section
variable {X : Cx} {pos : Pos}
end
structure M1 (X : Cx) (o : Expr) (m : Str) (apos : Pos) (e : Expr) (cpos : Pos) : Prop where
  base : attributeBase o m X.env (eval o X.env) = eval o X.env
  few : ((backTo cpos (starEach [e] X.env)).all (fun x => !x.1) && (backToKw cpos (keywordEach [] X.env)).all (fun x => x.1.isSome)
    && decide (([e] : List Expr).length + ([] : List Keyword).length + (if ([] : List Keyword).isEmpty then 0 else 1) < 30)) = true
  line : (apos.endLine == cpos.line) = true
  trees : backTo cpos (starEach [e] X.env) = [(false, eval e X.env)]
structure M2 (X : Cx) (o : Expr) (m : Str) (apos : Pos) (e f : Expr) (cpos : Pos) : Prop where
  base : attributeBase o m X.env (eval o X.env) = eval o X.env
  few : ((backTo cpos (starEach [e, f] X.env)).all (fun x => !x.1) && (backToKw cpos (keywordEach [] X.env)).all (fun x => x.1.isSome)
    && decide (([e, f] : List Expr).length + ([] : List Keyword).length + (if ([] : List Keyword).isEmpty then 0 else 1) < 30)) = true
  line : (apos.endLine == cpos.line) = true
  trees : backTo cpos (starEach [e, f] X.env) = [(false, eval e X.env), (false, eval f X.env)]
section
variable {X : Cx} {pins : List (Addr × Obj)} {σ : St} {H : Hp} {s : Shared} {a : Addr} {y d : V} {u r : Value} {o : Option V} {A : Around} {E : Value → Shared → Prop}
end
section
variable {X : Cx} {o e f : Expr} {apos cpos : Pos} {td ty tx : TE}
end
section
variable {X : Cx} {pins : List (Addr × Obj)} {σ : St} {H : Hp} {s : Shared} {a : Addr} {kvs : List (Key × V)} {A : Around} {E : Value → Shared → Prop}
end
section
variable {X : Cx} {pins : List (Addr × Obj)} {σ : St} {H : Hp} {s : Shared} {a : Addr} {y : V} {u : Value} {A : Around} {E : Value → Shared → Prop}
end
end L2
namespace L2
open PySem PySem.Spec PyProof.Rows
section
variable {prog : Program} {w : World} {A : Around} {E : Value → Shared → Prop}
end
section
variable {X : Cx}
end
end L2
namespace L2
open PySem PySem.Spec PyProof.Rows
theorem boot_reversed5 : bootBuiltins "reversed" = some (.type "reversed") := by decide +kernel
section
variable {X : Cx} {pins : List (Addr × Obj)} {σ : St} {H : Hp} {s : Shared} {h' : Heap}
theorem Inv.turnedL {t' : Nat} {ch : List Addr} (I : Inv X pins σ H s) (k : ∀ b o, b ∉ ch → s.heap.get? b = some o → h'.get? b = some o) (hf : ∀ b ∈ ch, FpOk X pins H b) : Inv X pins σ H { s with heap := h', toks := t' } := by
  have nit : ∀ b u, H b = some u → b ∉ ch := fun b u e z => by
    have q := (hf b z).1
    rw [q] at e; cases e
  refine I.step (g' := s.gens) (d' := s.drawn) (ch := ch) (fun b hb => ⟨(hf b hb).2.2.2.1, (hf b hb).2.1, (hf b hb).2.2.2.2.1, (hf b hb).2.2.2.2.2⟩) (fun b o _ _ hc e _ => k b o hc e) (fun b o _ _ hc e _ => ⟨o.slots, k b o hc e⟩)
    (fun _ _ _ _ n => n) (fun b o hc e => ⟨o, k b o hc e⟩) (fun _ _ e => e) (fun _ _ _ e => e) (fun b ps e => ⟨#[], by rw [e]; simp⟩) (fun m hm => ?_) (fun b u e => ?_) I.bare
  · obtain ⟨o, es, ep, ho, r⟩ := hm
    exact ⟨o, es, ep, k _ o (fun z => (hf _ z).2.1 rfl) ho, r⟩
  · refine (I.hok b u e).stay (fun c v hc q => k c v ?_ q) (fun _ q => q) fun _ _ q => q
    rcases hc with z | z
    · rw [z]; exact nit b u e
    · exact nit c _ z
theorem Inv.turnedNew {t' : Nat} {ch : List Addr} {T : Addr} {ob : HO} (I : Inv X pins σ H s) (k : ∀ b o, b ∉ ch → s.heap.get? b = some o → h'.get? b = some o) (hf : ∀ b ∈ ch, FpOk X pins H b) (hT : s.heap.objs.size ≤ T)
    (new : ObjOk X.prog X.w (upd H T ob) h' T ob) : Inv X pins σ (upd H T ob) { s with heap := h', toks := t' } := by
  have hn : H T = none := I.hok.fresh hT
  have nit : ∀ b u, H b = some u → b ∉ ch := fun b u e z => by
    have q := (hf b z).1
    rw [q] at e; cases e
  refine I.step (g' := s.gens) (d' := s.drawn) (ch := ch) (fun b hb => ⟨(hf b hb).2.2.2.1, (hf b hb).2.1, (hf b hb).2.2.2.2.1, (hf b hb).2.2.2.2.2⟩) (fun b o _ _ hc e _ => k b o hc e) (fun b o _ _ hc e _ => ⟨o.slots, k b o hc e⟩)
    (fun b o _ e n => ?_) (fun b o hc e => ⟨o, k b o hc e⟩) (fun b xs e => ?_) (fun b o u e => ?_) (fun b ps e => ⟨#[], ?_⟩) (fun m hm => ?_) (fun b u e => ?_) I.bare
  · rw [upd_ne (Nat.ne_of_lt (Nat.lt_of_lt_of_le (Heap.lt_size e) hT))]; exact n
  · rw [upd_ne (ne_of_none e hn)]; exact e
  · rw [upd_ne (ne_of_none e hn)]; exact e
  · rw [upd_ne (ne_of_none e hn), e]; simp
  · obtain ⟨o, es, ep, ho, r⟩ := hm
    exact ⟨o, es, ep, k _ o (fun z => (hf _ z).2.1 rfl) ho, r⟩
  · by_cases hb : b = T
    · subst hb
      rw [upd_same] at e
      cases e
      exact new
    · rw [upd_ne hb] at e
      refine (I.hok b u e).stay (fun c v hc q => k c v ?_ q) (fun c q => by rw [upd_ne (ne_of_none q hn)]; exact q) fun c xs q => by rw [upd_ne (ne_of_none q hn)]; exact q
      rcases hc with z | z
      · rw [z]; exact nit b u e
      · exact nit c _ z
end
section
variable {X : Cx}
theorem pi_one {tg : Expr} {pins : List (Addr × Obj)} {σ : St} {H : Hp} {s : Shared} {R : It → Hp → Prop} {J : It} {tn : Nat → Heap → Prop} {tk : Nat} (I : Inv X pins σ H s) (o : Obj)
    (T : Turn X.prog X.w X.K tg J [s.heap.objs.size] s.heap.objs.size tn) (st : tn 0 (s.heap.push o)) (q : R J H) : PIE X pins σ tg R (.ref s.heap.objs.size) { s with heap := s.heap.push o, toks := tk } := by
  refine ⟨s.heap.objs.size, [s.heap.objs.size], tn, J, H, rfl, I.kept fun b ob e => Heap.get?_push_of_some _ e, T, st, fun b hb => ?_, q⟩
  have e : b = s.heap.objs.size := by simpa using hb
  subst e
  exact I.fpOk (Nat.le_refl _) (I.hok.fresh (Nat.le_refl _))
end
def Itc (lo c : Int) (n : Nat) : It := ⟨fun i _ => i < n, fun i H x H' => H' = H ∧ x = .int (lo + (i : Nat) * c), fun i _ => n ≤ i⟩
theorem turn_rangeC {P : Program} {w : World} {K : PySem.W.Frag} {tg : Expr} (it : Addr) (lo c : Int) (n : Nat) : Turn P w K tg (Itc lo c n) [it] it (fun i h => IsRangeIter h it (lo + (i : Nat) * c) ((n : Int) - (i : Nat)) c) where
  mem := by simp
  obj := fun i h st b hb => by
    have e : b = it := by simpa using hb
    subst e
    exact ⟨_, st, fun v z => nomatch z⟩
  keep := fun i h h' st k => k it (by simp) _ st
  item := by
    intro X hP hw hK hc i pins s σ H E I hf st hg
    subst hP hw hK
    obtain ⟨f0, f1, f2, f3, f4, f5⟩ := hf it (by simp)
    have W := Walks.range (prog := X.prog) (w := X.w) (I.ok.hd hc) it lo c n
    refine W.item i s _ _ hg st fun v h' tk hv st' kk => ?_
    obtain ⟨t, rfl⟩ := hv
    have I1 : Inv X pins σ H { s with heap := h', toks := tk } := I.turned (fun b o hb e => kk b o (by simpa using hb) e) f0 f1 f3 f4 f5
    exact ⟨_, rfl, go_of (s := { s with heap := h', toks := tk }) (n := "range_iterator") st' rfl rfl (by decide) ⟨.int (lo + (i : Nat) * c), H, I1, ⟨t, rfl⟩, ⟨rfl, rfl⟩, st', fun b hb => (hf b hb).1⟩⟩
  done := by
    intro X hP hw hK hc i pins s σ H E I hf st hg
    subst hP hw hK
    obtain ⟨f0, f1, f2, f3, f4, f5⟩ := hf it (by simp)
    exact wpAny_pyNext_range_end (I.ok.hd hc) st (by have : n ≤ i := hg; omega) fun h' eb => ⟨rfl, I.turned (t' := s.toks) (fun b o hb e => eb b o hb e) f0 f1 f3 f4 f5⟩
  self := fun A i s Q E st h => wpAny_pyIter_rangeiter st h
def RgC (i j c : Int) (n : Nat) : Prop := c ≠ 0 ∧ c.natAbs < 1073741824 ∧ Builtin.Range.small i j c = true ∧ Builtin.Range.rangeSize i j c = n
theorem RgC.neg {i j : Int} (ha : -(2 ^ 62) ≤ i) (ha' : i < 2 ^ 62) (hb : -(2 ^ 62) ≤ j) (hb' : j < 2 ^ 62) : RgC i j (-1) (i - j).toNat :=
  ⟨by decide, by decide, PySem.W.small_down ha ha' hb hb', PySem.W.rangeSize_downNat i j⟩
def iRng3 (ta : TA) : TI := fun σ H R => ta σ H fun vs H1 => ∃ (i j c : Int) (n : Nat), vs = [.int i, .int j, .int c] ∧ RgC i j c n ∧ R (Itc i c n) H1
section
variable {X : Cx} {tg : Expr}
theorem pi_range3 {a b c : Expr} {ta : TA} {p pos : Pos} (hg : Gl X "range") (hm : X.mg "range" = none) (ha : PA X [a, b, c] ta)
    (hs : starEach [a, b, c] X.env = (false, eval a X.env) :: starEach [b, c] X.env := by rfl) (hpl : (backTo pos (starEach [b, c] X.env)).any (·.1) = false := by rfl) :
    PI X tg (.Call (.Name "range" p) [a, b, c] [] pos) (iRng3 ta) := by
  intro pins s σ H R I h
  refine Call_ (ld_blt I hg hm boot_range (PyProof.Rows.callWith_type1 (thn (ha pos pins s σ H _ I h) fun us s1 ⟨vs, H1, I1, r1, q1⟩ => ?_) hs hpl))
  obtain ⟨i, j, k, n, e, ⟨c0, c1, c2, c3⟩, q⟩ := q1
  subst e
  cases r1 with
  | cons r rr =>
    cases rr with
    | cons r' rr =>
      cases rr with
      | cons r'' rr =>
        cases rr
        obtain ⟨t, rfl⟩ := r
        obtain ⟨t', rfl⟩ := r'
        obtain ⟨t'', rfl⟩ := r''
        refine call_range_3 c0 ?_ (.inl (PyProof.noPylong_small c1))
        refine wpAny_pyIter_range (IsRange.new ..) c2 ?_
        have I2 : Inv X pins σ H1 { s1 with heap := s1.heap.push { cls := .type "range", data := .fields #[.int i t, .int j t', .int k t''] } } := I1.kept (t' := s1.toks) fun b o e => Heap.get?_push_of_some _ e
        refine pi_one (tk := s1.toks) I2 _ (turn_rangeC _ i k n) ?_ q
        have e1 : i + ((0 : Nat) : Int) * k = i := by simp
        have e2 : (n : Int) - ((0 : Nat) : Int) = Builtin.Range.rangeSize i j k := by rw [c3]; simp
        show IsRangeIter _ _ (i + ((0 : Nat) : Int) * k) ((n : Int) - ((0 : Nat) : Int)) k
        rw [e1, e2]
        exact Heap.get?_push_size _ rfl
end
theorem for_rangeC {lo c : Int} {n : Nat} {g : TG} {tb : TS} {D : Ends} {σ : St} {H : Hp} (Pv : Nat → St → Hp → Prop) (h0 : Pv 0 σ H)
    (hs : ∀ i σ H, i < n → Pv i σ H → g (.int (lo + (i : Nat) * c)) σ H fun σ2 H2 => tb { D with nx := Pv (i + 1), ct := Pv (i + 1), bk := D.nx } σ2 H2) (hd : ∀ σ H, Pv n σ H → D.nx σ H) :
    ∃ W : Nat → Nat → St → Hp → Prop, (∃ m, W 0 m σ H) ∧ ∀ i m σ H, W i m σ H →
      ((Itc lo c n).stop i H ∧ D.nx σ H) ∨ ((Itc lo c n).go i H ∧ ∃ N : St → Hp → Prop, (∀ σ' H', N σ' H' → ∃ m', m' < m ∧ W (i + 1) m' σ' H') ∧ ∀ x H', (Itc lo c n).yld i H x H' → g x σ H' fun σ2 H2 => tb { D with nx := N, ct := N, bk := D.nx } σ2 H2) := by
  refine ⟨fun i m σ H => m = n - i ∧ i ≤ n ∧ Pv i σ H, ⟨n, by simp, Nat.zero_le _, h0⟩, ?_⟩
  rintro i m σ H ⟨rfl, hi, p⟩
  by_cases hlt : i < n
  · refine .inr ⟨hlt, Pv (i + 1), fun σ' H' p' => ⟨n - (i + 1), by omega, rfl, hlt, p'⟩, fun x H' y => ?_⟩
    obtain ⟨e, y⟩ := y
    subst e y
    exact hs i σ _ hlt p
  · have e : i = n := by omega
    subst e
    exact .inl ⟨Nat.le_refl _, hd σ H p⟩
def Itv (K : PySem.W.Frag) (a : Addr) (n : Nat) : It :=
  ⟨fun i H => i < n ∧ ∃ (xs : List V) (x : V), SqL K H a xs ∧ xs[n - 1 - i]? = some x, fun i H x H' => H' = H ∧ ∀ xs, SqL K H a xs → xs[n - 1 - i]? = some x, fun i _ => n ≤ i⟩
theorem turn_rev {P : Program} {w : World} {K : PySem.W.Frag} {tg : Expr} (a it : Addr) (n : Nat) : Turn P w K tg (Itv K a n) [it] it (fun i h => i ≤ n ∧ h.IsRevIter it a ((n : Int) - 1 - (i : Nat))) where
  mem := by simp
  obj := fun i h st b hb => by
    have e : b = it := by simpa using hb
    subst e
    obtain ⟨_, o, e, c, d⟩ := st
    exact ⟨o, e, fun v z => by rw [d] at z; cases z⟩
  keep := fun i h h' st k => ⟨st.1, st.2.at fun o e => k it (by simp) o e⟩
  item := by
    intro X hP hw hK hc i pins s σ H E I hf st hg
    subst hP hw hK
    obtain ⟨hin, xs, x, hq, hx⟩ := hg
    obtain ⟨its, rv, p, hz⟩ := I.list hq
    obtain ⟨u, hu, ru⟩ := rv.get hx
    obtain ⟨f0, f1, f2, f3, f4, f5⟩ := hf it (by simp)
    obtain ⟨_, hit⟩ := st
    have e1 : (n : Int) - 1 - ((i : Nat) : Int) = ((n - 1 - i : Nat) : Int) := by omega
    rw [e1] at hit
    refine wpAny_pyNext_rev_item hit p.isList (x := u) (by simpa using hu) fun h' st' sb => ?_
    have e2 : ((n - 1 - i : Nat) : Int) - 1 = (n : Int) - 1 - ((i + 1 : Nat) : Int) := by omega
    rw [e2] at st'
    have I1 : Inv X pins σ H { s with heap := h' } := I.turned (t' := s.toks) (fun b o hb e => (sb.2 b hb).trans e) f0 f1 f3 f4 f5
    obtain ⟨o, e, c, d⟩ := id st'
    exact ⟨u, rfl, go_of (s := { s with heap := h' }) e c d (by decide) ⟨x, H, I1, ru, ⟨rfl, fun ys hy => by rw [I.list_inj hy hq]; exact hx⟩, ⟨hin, st'⟩, fun b hb => (hf b hb).1⟩⟩
  done := by
    intro X hP hw hK hc i pins s σ H E I hf st hg
    subst hP hw hK
    obtain ⟨f0, f1, f2, f3, f4, f5⟩ := hf it (by simp)
    obtain ⟨hin, hit⟩ := st
    have hge : n ≤ i := hg
    have e1 : (n : Int) - 1 - ((i : Nat) : Int) = -1 := by omega
    rw [e1] at hit
    exact wpAny_pyNext_rev_end (I.ok.hd hc) hit fun h' eb => ⟨rfl, I.turned (t' := s.toks) (fun b o hb e => eb b o hb e) f0 f1 f3 f4 f5⟩
  self := fun A i s Q E st h => wpAny_pyIter_revIter st.2 h
def iRev (K : PySem.W.Frag) (ta : TA) : TI := fun σ H R => ta σ H fun vs H1 => ∃ (a : Addr) (xs : List V), vs = [.ref a] ∧ SqL K H1 a xs ∧ R (Itv K a xs.length) H1
section
variable {X : Cx} {tg : Expr}
theorem pi_reversed {e : Expr} {ta : TA} {p pos : Pos} (hg : Gl X "reversed") (hm : X.mg "reversed" = none) (ha : PA X [e] ta) (hs : starEach [e] X.env = [(false, eval e X.env)] := by rfl) : PI X tg (.Call (.Name "reversed" p) [e] [] pos) (iRev X.K ta) := by
  intro pins s σ H R I h
  refine Call_ (ld_blt I hg hm boot_reversed5 (PyProof.Rows.callWith_type1 (thn (ha pos pins s σ H _ I h) fun us s1 ⟨vs, H1, I1, r1, q1⟩ => ?_) hs rfl))
  obtain ⟨a, xs, e, hq, q⟩ := q1
  subst e
  cases r1 with
  | cons r rr =>
    cases rr
    cases r
    obtain ⟨its, rv, p', hz⟩ := I1.list hq
    have hl := rv.length
    have e1 : ((its.toArray.size : Nat) : Int) - 1 = (xs.length : Int) - 1 - ((0 : Nat) : Int) := by simp only [List.size_toArray]; omega
    refine call_reversed_list p'.isList (wpAny_pyIter_revIter (l := a) (i := ((its.toArray.size : Nat) : Int) - 1) ⟨_, Heap.get?_push_size _ rfl, rfl, rfl⟩ ?_)
    refine pi_one (tk := s1.toks) I1 _ (turn_rev a _ xs.length) ⟨Nat.zero_le _, ?_⟩ q
    rw [← e1]
    exact ⟨_, Heap.get?_push_size _ rfl, rfl, rfl⟩
end
section
variable {prog : Program} {w : World} {A : Around} {E : Value → Shared → Prop} {s : Shared}
end
section
variable {X : Cx} {pins : List (Addr × Obj)} {σ : St} {H : Hp} {s : Shared} {d : Addr} {o : Obj}
end
section
variable {P : Program} {w : World} {K : PySem.W.Frag} {tg : Expr} {d : Addr} {o : Obj} {es : Array DictEntry} {ep : Nat}
end
section
variable {X : Cx} {tg e : Expr} {td : TE} {apos cpos : Pos}
end
def Ite (K : PySem.W.Frag) (a : Addr) : It :=
  ⟨fun i H => ∃ (xs : List V) (x : V), SqL K H a xs ∧ xs[i]? = some x, fun i H v H' => ∃ T x, v = .ref T ∧ H T = none ∧ H' = upd H T (.tup [.int (i : Nat), x]) ∧ ∀ xs, SqL K H a xs → xs[i]? = some x, fun i H => ∃ xs : List V, SqL K H a xs ∧ xs.length ≤ i⟩
theorem turn_enum {P : Program} {w : World} {K : PySem.W.Frag} {elts : List Expr} {kk : Nat} {tpos : Pos} (a e it : Addr) :
    Turn P w K (.Tuple elts kk tpos) (Ite K a) [e, it] e (fun i h => (∃ old, IsEnum h e it ((i : Nat) : Int) old) ∧ h.IsListIter it a i ∧ e ≠ it) where
  mem := by simp
  obj := fun i h st b hb => by
    obtain ⟨⟨old, he⟩, ⟨o, ho, hc, hd⟩, _⟩ := st
    have e' : b = e ∨ b = it := by simpa using hb
    rcases e' with z | z
    · rw [z]; exact ⟨_, he, fun v q => nomatch q⟩
    · rw [z]; exact ⟨o, ho, fun v q => by rw [hd] at q; cases q⟩
  keep := fun i h h' st k => let ⟨⟨old, he⟩, hi, hne⟩ := st; ⟨⟨old, k e (by simp) _ he⟩, hi.at fun o q => k it (by simp) o q, hne⟩
  item := by
    intro X hP hw hK hc i pins s σ H E I hf st hg
    subst hP hw hK
    obtain ⟨⟨old, he⟩, hit, hne⟩ := st
    obtain ⟨xs, x, hq, hx⟩ := hg
    obtain ⟨its, rv, p, hz⟩ := I.list hq
    obtain ⟨u, hu, ru⟩ := rv.get hx
    have hel : e < s.heap.objs.size := Heap.lt_size he
    have hil : it < s.heap.objs.size := by obtain ⟨_, q, _⟩ := hit; exact Heap.lt_size q
    refine wpAny_pyNext_enum_item he hit p.isList (x := u) (by simpa using hu) hne fun h' ho hit' hT hsz hk => ?_
    refine ⟨_, rfl, wpAny_letOwnedTupleGo_enum (s := { s with heap := h', toks := s.toks + 1 }) ho fun h'' he' sb => ?_⟩
    have hT2 : h''.get? s.heap.objs.size = some { cls := .type "tuple", data := .seq #[.int i s.toks, u] } := (sb.2 _ (Nat.ne_of_gt hel)).trans hT
    have new : ObjOk X.prog X.w (upd H s.heap.objs.size (.tup [.int (i : Nat), x])) h'' s.heap.objs.size (.tup [.int (i : Nat), x]) :=
      ⟨by show 2 ≤ sizeLine; decide, [.int i s.toks, u], .cons ⟨_, rfl⟩ (.cons ru .nil), ⟨_, hT2, rfl, _, rfl⟩⟩
    have I1 : Inv X pins σ (upd H s.heap.objs.size (.tup [.int (i : Nat), x])) { s with heap := h'', toks := s.toks + 1 } :=
      I.turnedNew (ch := [e, it]) (fun b ob hb q => (sb.2 b (fun z => hb (by simp [z]))).trans (hk b ob (fun z => hb (by simp [z])) (fun z => hb (by simp [z])) q)) hf (Nat.le_refl _) new
    refine ⟨.ref s.heap.objs.size, _, I1, rfl, ⟨_, x, rfl, I.hok.fresh (Nat.le_refl _), rfl, fun ys hy => by rw [I.list_inj hy hq]; exact hx⟩, ⟨⟨u, ?_⟩, hit'.at fun o q => (sb.2 it (Ne.symm hne)).trans q, hne⟩, fun b hb => ?_⟩
    · have e1 : ((i + 1 : Nat) : Int) = (i : Int) + 1 := by omega
      rw [e1]; exact he'
    · have hb' : b < s.heap.objs.size := by
        have e' : b = e ∨ b = it := by simpa using hb
        rcases e' with z | z
        · rw [z]; exact hel
        · rw [z]; exact hil
      rw [upd_ne (Nat.ne_of_lt hb')]
      exact (hf b hb).1
  done := by
    intro X hP hw hK hc i pins s σ H E I hf st hg
    subst hP hw hK
    obtain ⟨⟨old, he⟩, hit, hne⟩ := st
    obtain ⟨xs, hq, hx⟩ := hg
    obtain ⟨its, rv, p, hz⟩ := I.list hq
    obtain ⟨f0, f1, f2, f3, f4, f5⟩ := hf it (by simp)
    have hl := rv.length
    exact wpAny_pyNext_enum_end (I.ok.hd hc) he hit p.isList (by simp; omega) fun h' eb => ⟨rfl, I.turned (t' := s.toks) (fun b o hb q => eb b o hb q) f0 f1 f3 f4 f5⟩
  self := fun A i s Q E st h => let ⟨⟨_, he⟩, _⟩ := st; wpAny_pyIter_enum he h
def iEnum (K : PySem.W.Frag) (ta : TA) : TI := fun σ H R => ta σ H fun vs H1 => ∃ a xs, vs = [.ref a] ∧ SqL K H1 a xs ∧ R (Ite K a) H1
theorem pi_enum {X : Cx} {e : Expr} {ta : TA} {p pos tpos : Pos} {elts : List Expr} {kk : Nat} (hg : Gl X "enumerate") (hm : X.mg "enumerate" = none) (ha : PA X [e] ta) (hs : starEach [e] X.env = [(false, eval e X.env)] := by rfl) :
    PI X (.Tuple elts kk tpos) (.Call (.Name "enumerate" p) [e] [] pos) (iEnum X.K ta) := by
  intro pins s σ H R I h
  refine Call_ (ld_blt I hg hm boot_enumerate (PyProof.Rows.callWith_type1 (thn (ha pos pins s σ H _ I h) fun us s1 ⟨vs, H1, I1, r1, q1⟩ => ?_) hs rfl))
  obtain ⟨a, xs, ex, hq, q⟩ := q1
  subst ex
  cases r1 with
  | cons r rr =>
    cases rr
    cases r
    obtain ⟨its, rv, p', hz⟩ := I1.list hq
    refine call_enumerate_list p'.isList fun h' he hit hsz hk => wpAny_pyIter_enum he ?_
    have I2 : Inv X pins σ H1 { s1 with heap := h' } := I1.kept (t' := s1.toks) hk
    refine ⟨s1.heap.objs.size + 1, [s1.heap.objs.size + 1, s1.heap.objs.size], _, _, H1, rfl, I2, turn_enum a (s1.heap.objs.size + 1) s1.heap.objs.size, ⟨⟨.none, he⟩, hit, Nat.succ_ne_self _⟩, fun b hb => ?_, q⟩
    have e' : b = s1.heap.objs.size + 1 ∨ b = s1.heap.objs.size := by simpa using hb
    have hle : s1.heap.objs.size ≤ b := by
      rcases e' with z | z
      · rw [z]; exact Nat.le_add_right _ _
      · rw [z]; exact Nat.le_refl _
    exact I1.fpOk hle (I1.hok.fresh hle)
theorem boot_zip5 : bootBuiltins "zip" = some (.type "zip") := by decide +kernel
def Itz (K : PySem.W.Frag) (a b : Addr) : It :=
  ⟨fun i H => ∃ (xs ys : List V) (x y : V), SqL K H a xs ∧ SqL K H b ys ∧ xs[i]? = some x ∧ ys[i]? = some y,
    fun i H v H' => ∃ T x y, v = .ref T ∧ H T = none ∧ H' = upd H T (.tup [x, y]) ∧ (∀ xs, SqL K H a xs → xs[i]? = some x) ∧ ∀ ys, SqL K H b ys → ys[i]? = some y,
    fun i H => ∃ xs ys : List V, SqL K H a xs ∧ SqL K H b ys ∧ (xs.length ≤ i ∨ ys.length ≤ i)⟩
theorem turn_zip {P : Program} {w : World} {K : PySem.W.Frag} {elts : List Expr} {kk : Nat} {tpos : Pos} {a b z TI TO i1 i2 : Addr} (D : ZipApart z TI TO i1 i2 a b) :
    Turn P w K (.Tuple elts kk tpos) (Itz K a b) [z, TI, TO, i1, i2] z (fun i h => IsZip h z TI TO .none ∧ IsPair h TI (.ref i1) (.ref i2) ∧ (∃ x y, IsPair h TO x y) ∧ h.IsListIter i1 a i ∧ h.IsListIter i2 b i) where
  mem := by simp
  obj := fun i h st c hc => by
    obtain ⟨hz, hTI, ⟨x, y, hTO⟩, ⟨o1, e1, _, d1⟩, ⟨o2, e2, _, d2⟩⟩ := st
    have e' : c = z ∨ c = TI ∨ c = TO ∨ c = i1 ∨ c = i2 := by simpa using hc
    rcases e' with q | q | q | q | q
    · rw [q]; exact ⟨_, hz, fun v q => nomatch q⟩
    · rw [q]; exact ⟨_, hTI, fun v q => nomatch q⟩
    · rw [q]; exact ⟨_, hTO, fun v q => nomatch q⟩
    · rw [q]; exact ⟨o1, e1, fun v q => by rw [d1] at q; cases q⟩
    · rw [q]; exact ⟨o2, e2, fun v q => by rw [d2] at q; cases q⟩
  keep := fun i h h' st k => by
    obtain ⟨hz, hTI, ⟨x, y, hTO⟩, h1, h2⟩ := st
    exact ⟨k z (by simp) _ hz, k TI (by simp) _ hTI, ⟨x, y, k TO (by simp) _ hTO⟩, h1.at fun o q => k i1 (by simp) o q, h2.at fun o q => k i2 (by simp) o q⟩
  item := by
    intro X hP hw hK hc i pins s σ H E I hf st hg
    subst hP hw hK
    obtain ⟨hz, hTI, ⟨x0, y0, hTO⟩, h1, h2⟩ := st
    obtain ⟨xs, ys, x, y, hqx, hqy, hx, hy⟩ := hg
    obtain ⟨its, rv, p, _⟩ := I.list hqx
    obtain ⟨its2, rv2, p2, _⟩ := I.list hqy
    obtain ⟨u, hu, ru⟩ := rv.get hx
    obtain ⟨u2, hu2, ru2⟩ := rv2.get hy
    have hzl : z < s.heap.objs.size := Heap.lt_size hz
    refine wpAny_pyNext_zip_item D hz hTI hTO h1 h2 p.isList p2.isList (x := u) (y := u2) (by simpa using hu) (by simpa using hu2) fun h' z' TO' h1' h2' hT hsz hk => ?_
    refine ⟨_, rfl, wpAny_letOwnedTupleGo_zip (s := { s with heap := h' }) z' fun h'' z'' sb => ?_⟩
    have hT2 : h''.get? s.heap.objs.size = some { cls := .type "tuple", data := .seq #[u, u2] } := (sb.2 _ (Nat.ne_of_gt hzl)).trans hT
    have new : ObjOk X.prog X.w (upd H s.heap.objs.size (.tup [x, y])) h'' s.heap.objs.size (.tup [x, y]) :=
      ⟨by show 2 ≤ sizeLine; decide, [u, u2], .cons ru (.cons ru2 .nil), ⟨_, hT2, rfl, _, rfl⟩⟩
    have I1 : Inv X pins σ (upd H s.heap.objs.size (.tup [x, y])) { s with heap := h'' } :=
      I.turnedNew (t' := s.toks) (ch := [z, TI, TO, i1, i2]) (fun c o hb q => (sb.2 c (fun q' => hb (by simp [q']))).trans (hk c o (fun q' => hb (by simp [q'])) (fun q' => hb (by simp [q'])) (fun q' => hb (by simp [q'])) (fun q' => hb (by simp [q'])) q)) hf (Nat.le_refl _) new
    refine ⟨.ref s.heap.objs.size, _, I1, rfl, ⟨_, x, y, rfl, I.hok.fresh (Nat.le_refl _), rfl, fun l hl => by rw [I.list_inj hl hqx]; exact hx, fun l hl => by rw [I.list_inj hl hqy]; exact hy⟩, ⟨z'', ?_, ⟨u, u2, ?_⟩, ?_, ?_⟩, fun c hcm => ?_⟩
    · exact (sb.2 _ D.TIz).trans (hk _ _ D.TIz D.TITO D.TIi1 D.TIi2 hTI)
    · exact (sb.2 _ D.TOz).trans TO'
    · exact h1'.at fun o q => (sb.2 _ D.i1z).trans q
    · exact h2'.at fun o q => (sb.2 _ D.i2z).trans q
    · have hlt : c < s.heap.objs.size := by
        have e' : c = z ∨ c = TI ∨ c = TO ∨ c = i1 ∨ c = i2 := by simpa using hcm
        rcases e' with q | q | q | q | q
        · rw [q]; exact hzl
        · rw [q]; exact Heap.lt_size hTI
        · rw [q]; exact Heap.lt_size hTO
        · rw [q]; obtain ⟨_, e1, _⟩ := h1; exact Heap.lt_size e1
        · rw [q]; obtain ⟨_, e2, _⟩ := h2; exact Heap.lt_size e2
      rw [upd_ne (Nat.ne_of_lt hlt)]
      exact (hf c hcm).1
  done := by
    intro X hP hw hK hc i pins s σ H E I hf st hg
    subst hP hw hK
    obtain ⟨hz, hTI, ⟨x0, y0, hTO⟩, h1, h2⟩ := st
    obtain ⟨xs, ys, hqx, hqy, hend⟩ := hg
    obtain ⟨its, rv, p, _⟩ := I.list hqx
    obtain ⟨its2, rv2, p2, _⟩ := I.list hqy
    have l1 := rv.length
    have l2 := rv2.length
    have he : its.toArray[i]? = none ∨ its2.toArray[i]? = none := by
      rcases hend with q | q
      · exact .inl (by simp; omega)
      · exact .inr (by simp; omega)
    exact wpAny_pyNext_zip_end (I.ok.hd hc) D hz hTI hTO h1 h2 p.isList p2.isList he fun h' hk => ⟨rfl, I.turnedL (t' := s.toks) (ch := [z, TI, TO, i1, i2]) (fun c o hb q =>
      hk c o (fun q' => hb (by simp [q'])) (fun q' => hb (by simp [q'])) (fun q' => hb (by simp [q'])) (fun q' => hb (by simp [q'])) q) hf⟩
  self := fun A i s Q E st h => wpAny_pyIter_zip st.1 h
def iZip (K : PySem.W.Frag) (ta : TA) : TI := fun σ H R => ta σ H fun vs H1 => ∃ a b xs ys, vs = [.ref a, .ref b] ∧ SqL K H1 a xs ∧ SqL K H1 b ys ∧ R (Itz K a b) H1
theorem pi_zip {X : Cx} {e e2 : Expr} {ta : TA} {p pos tpos : Pos} {elts : List Expr} {kk : Nat} (hg : Gl X "zip") (hm : X.mg "zip" = none) (ha : PA X [e, e2] ta)
    (hs : starEach [e, e2] X.env = (false, eval e X.env) :: starEach [e2] X.env := by rfl) (hpl : (backTo pos (starEach [e2] X.env)).any (·.1) = false := by rfl) :
    PI X (.Tuple elts kk tpos) (.Call (.Name "zip" p) [e, e2] [] pos) (iZip X.K ta) := by
  intro pins s σ H R I h
  refine Call_ (ld_blt I hg hm boot_zip5 (PyProof.Rows.callWith_type1 (thn (ha pos pins s σ H _ I h) fun us s1 ⟨vs, H1, I1, r1, q1⟩ => ?_) hs hpl))
  obtain ⟨a, b, xs, ys, ex, hqx, hqy, q⟩ := q1
  subst ex
  cases r1 with
  | cons r rr =>
    cases rr with
    | cons r' rr =>
      cases rr
      cases r
      cases r'
      obtain ⟨its, rv, p1, _⟩ := I1.list hqx
      obtain ⟨its2, rv2, p2, _⟩ := I1.list hqy
      have la : a < s1.heap.objs.size := p1.lt
      have lb : b < s1.heap.objs.size := p2.lt
      refine call_zip_2 p1.isList p2.isList fun h' hz hTI hTO h1 h2 hsz hk => wpAny_pyIter_zip hz ?_
      have I2 : Inv X pins σ H1 { s1 with heap := h' } := I1.kept (t' := s1.toks) hk
      refine ⟨s1.heap.objs.size + 4, [s1.heap.objs.size + 4, s1.heap.objs.size + 2, s1.heap.objs.size + 3, s1.heap.objs.size, s1.heap.objs.size + 1], _, _, H1, rfl, I2, turn_zip (PySem.W.ktu_apart s1.heap.objs.size a b la lb), ⟨hz, hTI, ⟨_, _, hTO⟩, h1, h2⟩, fun c hcm => ?_, q⟩
      have e' : c = s1.heap.objs.size + 4 ∨ c = s1.heap.objs.size + 2 ∨ c = s1.heap.objs.size + 3 ∨ c = s1.heap.objs.size ∨ c = s1.heap.objs.size + 1 := by simpa using hcm
      have hle : s1.heap.objs.size ≤ c := by
        rcases e' with z | z | z | z | z
        · rw [z]; exact Nat.le_add_right _ _
        · rw [z]; exact Nat.le_add_right _ _
        · rw [z]; exact Nat.le_add_right _ _
        · rw [z]; exact Nat.le_refl _
        · rw [z]; exact Nat.le_add_right _ _
      exact I1.fpOk hle (I1.hok.fresh hle)
end L2
section 
namespace Bits
open PySem PyProof.Rows
end Bits
end 
section 
namespace TL
open PySem PySem.Builtin PySem.Builtin.Str PySem.StrLaws
end TL
end 
namespace L2
open PySem PySem.Spec PyProof.Rows
section
variable {X : Cx} {pins : List (Addr × Obj)} {σ : St} {H : Hp} {s : Shared} {Q : VK}
end
section
variable {X : Cx}
end
section
variable {X : Cx} {o e : Expr} {to te : TE}
end
end L2
namespace L2
open PySem PySem.Spec PyProof.Rows
section
variable {X : Cx}
end
end L2
namespace Att
open PySem PySem.W PySem.Calls PyProof.Rows
section
variable {prog : Program} {w : World} {A : Around} {E : Value → Shared → Prop} {s : Shared} {K : Frag}
end
end Att
namespace L2
open PySem PySem.Spec PyProof.Rows
end L2
namespace L2
open PySem PySem.Spec PyProof.Rows
end L2
/- THE LAST THEOREM (shape; LID, My.* are yours):
   My.Adr: a structure of the addresses that your layer names (classes, functions); My.Txt K t: a structure (Prop) of the equations over K;
   My.txt_mk : {K} {implicit addresses ..} (e1 : nsIn K mainGlobals "law" = some (some (.ref f))) (e2 : K.lookup f = some ⟨oc, od, .func (fnOf "law" "law" params body scope dV kV doc pm an cdv ct), sl⟩) (e3 : codeIn K cdv "law" = true) .. : ∃ t, My.Txt K t
set_option maxHeartbeats 0 in
theorem PySem.Challenge.cw_LID_holds : PySem.Challenge.rw_LID.Holds := by
  w_on; o_law; k_head; (case hw => w_witness2)
  k_fill
  refine L2.walk_of (l := PySem.Challenge.rw_LID) (n := 63) (k := 40) (x := "script") (CX := fun w => ..) (sp := fun _ => My.sp_law) rfl (by decide) rfl ⟨rfl, by decide, by decide⟩ (fun w h Y => PySem.W.kIn_of Y) ?F ?S ?C
  case F =>
    intro w mg fa h KX G hmg
    have T : ∃ t, My.Txt (L2.KOf KX) t := by
      dsimp only [L2.KOf]                          -- K must stand as «<heap const> w.params» for k_is
      refine' My.txt_mk ?e1 ?e2 ?e3 ..
      (case e1 => PySem.W.k_is)                    -- in the order: a name -> its address -> its object -> its parts
      (case e2 => PySem.W.k_is)
      ..
    obtain ⟨t, T⟩ := T
    have e0 := hmg.symm.trans (PySem.W.mg_of KX G T.law)
    cases e0                                       -- fa is the law's own address
    exact ⟨_, fun s u => .of_eq rfl, fun base kb nb => My.law_fn T kb nb⟩     -- if «.of_eq rfl» comes too early: refine' ⟨_, ?b, fun base kb nb => My.law_fn T kb nb⟩; exact fun s u => .of_eq rfl
  case S => exact fun w H a ns hl hO hS => ..
  case C => exact ..
(the tactic k_is has no namespace: write k_is) -/
namespace L2
open PySem PySem.Spec PyProof.Rows
def inClass (s : Stmt) (j : Nat) : Stmt := match s with
  | .ClassDef _ _ _ body _ _ _ _ _ _ _ => body.getD j (.Pass ⟨0, 0, 0, 0⟩)
  | _ => .Pass ⟨0, 0, 0, 0⟩
def defArgs (s : Stmt) : Arguments := match s with
  | .FunctionDef _ a _ _ _ _ _ _ _ _ => a
  | _ => { posonlyargs := [], args := [], vararg := none, kwonlyargs := [], kw_defaults := [], kwarg := none, defaults := [] }
def defBody (s : Stmt) : List Stmt := match s with
  | .FunctionDef _ _ b _ _ _ _ _ _ _ => b
  | _ => []
def defScope (s : Stmt) : Scope := match s with
  | .FunctionDef _ _ _ _ _ _ sc _ _ _ => sc
  | _ => { kind := .function, names := [], isGenerator := false, isCoroutine := false }
abbrev CX0 : CXT := fun _ _ _ _ _ _ => False
abbrev E0 : XK := fun _ _ _ => False
theorem pass0 {X : Cx} : Passes CX0 X E0 := fun _ _ _ _ _ _ _ h => h.elim
structure Fun (K : PySem.W.Frag) (x qual : Str) (st : Stmt) (f : Addr) (fd : FuncData) : Prop where
  ex : ∃ (oc : Value) (od : Option Addr) (kV doc pm : Value) (an : Option Addr) (cdv ct : Value) (osl : Array (Option Value)),
    fd = PySem.W.fnOf x qual (defArgs st) (defBody st) (defScope st) .none kV doc pm an cdv ct ∧ K.lookup f = some ⟨oc, od, .func fd, osl⟩ ∧ PySem.W.codeIn K cdv qual = true
  kp : PySem.W.keepIn K (.ref f) = true
section
variable {P : Program} {w : World} {K : PySem.W.Frag} {mg : Str → Option Value} {base : Heap}
theorem Fun.ok {x qual : Str} {st : Stmt} {f : Addr} {fd : FuncData} {N ps : List Str} {k : Nat} {sp : Sp} (F : Fun K x qual st f fd) (S : FnScope N ps (defScope st)) (len : ∀ vs H Q E, sp vs H Q E → vs.length = ps.length)
    (hbody : ∀ (cdv : Value) (A : Around) (outer : List Env) (s : Shared) (H : Hp) (vs : List V) (Q : VK) (E : XK), Room k (A.deeper (envOfC qual (defScope st) s.heap.objs.size f cdv)) → sp vs H Q E →
      ∃ t, PSs (cxOf CX0 P w K mg base N qual (defScope st) f cdv A outer s H E).nox (defBody st) t ∧ t { nx := fun _ H' => Q .non H', rt := Q } (start N vs) H) : FnOk P w K mg base CX0 (k + 1) f fd ps sp := by
  obtain ⟨oc, od, kV, doc, pm, an, cdv, ct, osl, rfl, lk, hcd⟩ := F.ex
  refine fn_of lk hcd S len fun A outer s H vs Q E hr hsp => ?_
  obtain ⟨t, h, q⟩ := hbody cdv A outer s H vs Q E hr hsp
  exact ⟨t, h.nox, q⟩
theorem Fun.binds {x qual : Str} {st : Stmt} {f : Addr} {fd : FuncData} {ps : List Str} (F : Fun K x qual st f fd)
    (h : ∀ (kV doc pm : Value) (an : Option Addr) (cdv ct : Value) (us : List Value), us.length = ps.length → bindArgs (PySem.W.fnOf x qual (defArgs st) (defBody st) (defScope st) .none kV doc pm an cdv ct) ⟨us, []⟩ = pure (ps.zip us)) : Binds K fd ps [] := by
  obtain ⟨oc, od, kV, doc, pm, an, cdv, ct, osl, rfl, lk, hcd⟩ := F.ex
  exact .all (h kV doc pm an cdv ct)
theorem fun_mk {x qual : Str} {st : Stmt} {f : Addr} {oc : Value} {od an : Option Addr} {osl : Array (Option Value)} {kV doc pm cdv ct : Value} (l : K.lookup f = some ⟨oc, od, .func (PySem.W.fnOf x qual (defArgs st) (defBody st) (defScope st) .none kV doc pm an cdv ct), osl⟩)
    (c : PySem.W.codeIn K cdv qual = true) (k : PySem.W.keepIn K (.ref f) = true) : Fun K x qual st f (PySem.W.fnOf x qual (defArgs st) (defBody st) (defScope st) .none kV doc pm an cdv ct) := ⟨⟨oc, od, kV, doc, pm, an, cdv, ct, osl, rfl, l, c⟩, k⟩
end
section
variable {X : Cx}
theorem pv (i : Nat) {x : Str} {pos : Pos} (hN : X.N[i]? = some x := by rfl) (hv : Vis X.env.scope x := by first | exact Or.inl rfl | exact Or.inr (Or.inl rfl) | exact Or.inr (Or.inr rfl)) (hd : (x == ("__debug__" : Str)) = false := by decide)
    (hcd : (x == ("__classdict__" : Str)) = false := by decide) : PE X (.Name x pos) (tVar i) := pe_var hN hv hd hcd
end
theorem iteF {A B : Prop} (h : B) : if false = true then A else B := by
  rw [if_neg Bool.false_ne_true]
  exact h
theorem iteT {A B : Prop} (h : A) : if true = true then A else B := by
  rw [if_pos rfl]
  exact h
theorem ite2 {c A B : Prop} [Decidable c] (h1 : c → A) (h2 : ¬ c → B) : if c then A else B := by
  by_cases h : c
  · rw [if_pos h]
    exact h1 h
  · rw [if_neg h]
    exact h2 h
def Same (H H' : Hp) : Prop := ∀ b o, H b = some o → H' b = some o
theorem Same.refl (H : Hp) : Same H H := fun _ _ h => h
theorem Same.trans {H H1 H2 : Hp} (a : Same H H1) (b : Same H1 H2) : Same H H2 := fun c o h => b c o (a c o h)
theorem Same.free {H H' : Hp} (e : Same H H') {l : Addr} (h : H' l = Option.none) : H l = Option.none := by
  cases q : H l with
  | none => rfl
  | some o =>
    rw [e l o q] at h
    cases h
theorem Same.seq {K : PySem.W.Frag} {H H' : Hp} {a : Addr} {xs : List V} (e : Same H H') (h : SqL K H a xs) : SqL K H' a xs := by
  rcases h with (h | ⟨o, h⟩) | h
  · exact .inl (.inl (e _ _ h))
  · exact .inl (.inr ⟨o, e _ _ h⟩)
  · exact .inr h
section
variable {κ : Type} [DecidableEq κ]
end
theorem at_of {xs : List V} {z : Int} {j : Nat} {v : V} (e : z = (j : Int)) (h : xs[j]? = some v) : atI xs z = some v := by
  rw [e]
  exact atI_nat h
end L2
section
namespace Att
open PySem PySem.W PySem.Calls PyProof.Rows
section
variable {prog : Program} {w : World} {A : Around} {E : Value → Shared → Prop} {s : Shared} {K : Frag}
end
end Att
namespace L2
open PySem PySem.Spec PyProof.Rows
end L2
namespace L2
open PySem PySem.Spec PyProof.Rows
end L2
end
section
set_option maxHeartbeats 2000000
namespace L2
open PySem PySem.Spec PyProof.Rows
open PySem.W (WData Codec OpenSpec Well WellAll ReadsW ReadsAllW)
mutual
inductive Dw (K : PySem.W.Frag) (H : Hp) : V → WData → Prop
  | non : Dw K H .non .none
  | bl (b : Bool) : Dw K H (.bl b) (.bool b)
  | int (i : Int) : Dw K H (.int i) (.int i)
  | str (x : Str) : Dw K H (.str x) (.str x)
  | byt (b : Array UInt8) : Dw K H (.byt b) (.bytes b.toList)
  | lst {a : Addr} {xs : List V} {ds : List WData} : SqL K H a xs → DwAll K H xs ds → Dw K H (.ref a) (.list ds)
  | tup {a : Addr} {xs : List V} {ds : List WData} : SqT K H a xs → DwAll K H xs ds → Dw K H (.ref a) (.tuple ds)
inductive DwAll (K : PySem.W.Frag) (H : Hp) : List V → List WData → Prop
  | nil : DwAll K H [] []
  | cons {v : V} {vs : List V} {d : WData} {ds : List WData} : Dw K H v d → DwAll K H vs ds → DwAll K H (v :: vs) (d :: ds)
end
theorem dw_ints {K : PySem.W.Frag} {H : Hp} : ∀ ns : List Int, DwAll K H (ns.map V.int) (ns.map WData.int)
  | [] => .nil
  | n :: r => .cons (.int n) (dw_ints r)
theorem ints_dw {K : PySem.W.Frag} {H : Hp} : ∀ (ns : List Int) (xs : List V), DwAll K H xs (ns.map WData.int) → xs = ns.map V.int
  | [], xs, h => by
    cases h
    rfl
  | n :: r, xs, h => by
    cases h with
    | cons h1 h2 =>
      cases h1
      rw [ints_dw r _ h2] <;> rfl
section
variable {P : Program} {w : World} {K : PySem.W.Frag} {H : Hp} {h : Heap} {R : PySem.W.WRecords} {cl : Str → Option Addr}
theorem sqL_at {a : Addr} {xs : List V} (hok : HOk P w H h) (KX : K.In h) (q : SqL K H a xs) : ∃ (its : List Value) (o : Obj) (n : Nat), Vals xs its ∧ h.get? a = some o ∧ o.cls = .type "list" ∧ o.data = .seq its.toArray n := by
  rcases q with q | ⟨o, its, n, e, hc, _, hd, _, hv⟩
  · obtain ⟨_, its, n, hv, e⟩ := (show ObjOk P w H h a (.lst xs) from q.ok hok)
    exact ⟨its, _, n, hv, e, rfl, rfl⟩
  · exact ⟨its.toList, o, n, hv, KX _ _ e, hc, by simp [hd]⟩
theorem sqT_at {a : Addr} {xs : List V} (hok : HOk P w H h) (KX : K.In h) (q : SqT K H a xs) : ∃ (its : List Value) (o : Obj) (n : Nat), Vals xs its ∧ h.get? a = some o ∧ o.cls = .type "tuple" ∧ o.data = .seq its.toArray n := by
  rcases q with q | ⟨o, its, n, e, hc, hd, _, hv⟩
  · obtain ⟨_, its, hv, o, e, hc, n, hd⟩ := (show ObjOk P w H h a (.tup xs) from q.ok hok)
    exact ⟨its, o, n, hv, e, hc, hd⟩
  · exact ⟨its.toList, o, n, hv, KX _ _ e, hc, by simp [hd]⟩
mutual
theorem Dw.reads (hok : HOk P w H h) (KX : K.In h) : ∀ (d : WData) (v : V) (u : Value), Dw K H v d → RelV v u → ∃ as, ReadsW R cl h u d as
  | .none, _, _, x, r => by
    cases x
    cases r
    exact ⟨_, ReadsW.none⟩
  | .bool b, _, _, x, r => by
    cases x
    cases r
    exact ⟨_, ReadsW.bool b⟩
  | .int i, _, _, x, r => by
    cases x
    obtain ⟨t, rfl⟩ := r
    exact ⟨_, ReadsW.int i t⟩
  | .str s, _, _, x, r => by
    cases x
    obtain ⟨t, rfl⟩ := r
    exact ⟨_, ReadsW.str s t⟩
  | .bytes b, _, _, x, r => by
    cases x
    obtain ⟨t, rfl⟩ := r
    exact ⟨_, ReadsW.bytes _ t⟩
  | .list ds, _, _, x, r => by
    cases x with
    | lst hs ha =>
      cases r
      obtain ⟨its, o, n, rv, ho, hc, hd⟩ := sqL_at hok KX hs
      obtain ⟨as, hr⟩ := Dw.readsAll hok KX ds _ its ha rv
      exact ⟨_, ReadsW.list ho hc hd hr⟩
  | .tuple ds, _, _, x, r => by
    cases x with
    | tup hs ha =>
      cases r
      obtain ⟨its, o, n, rv, ho, hc, hd⟩ := sqT_at hok KX hs
      obtain ⟨as, hr⟩ := Dw.readsAll hok KX ds _ its ha rv
      exact ⟨_, ReadsW.tuple ho hc hd hr⟩
  | .float _, _, _, x, _ => by cases x
  | .dict _, _, _, x, _ => by cases x
  | .bytearray _, _, _, x, _ => by cases x
  | .set _, _, _, x, _ => by cases x
  | .frozenset _, _, _, x, _ => by cases x
  | .obj _ _, _, _, x, _ => by cases x
theorem Dw.readsAll (hok : HOk P w H h) (KX : K.In h) : ∀ (ds : List WData) (vs : List V) (us : List Value), DwAll K H vs ds → Vals vs us → ∃ as, ReadsAllW R cl h us ds as
  | [], _, _, x, r => by
    cases x
    cases r
    exact ⟨_, ReadsAllW.nil⟩
  | d :: ds, _, _, x, r => by
    cases x with
    | cons h1 h2 =>
      cases r with
      | cons r1 r2 =>
        obtain ⟨as, q1⟩ := Dw.reads hok KX d _ _ h1 r1
        obtain ⟨bs, q2⟩ := Dw.readsAll hok KX ds _ _ h2 r2
        exact ⟨_, ReadsAllW.cons q1 q2⟩
end
end
mutual
def plW : WData → Bool
  | .none => true
  | .bool _ => true
  | .int _ => true
  | .str _ => true
  | .bytes _ => true
  | .list xs => plWs xs
  | .tuple xs => plWs xs
  | _ => false
def plWs : List WData → Bool
  | [] => true
  | x :: r => plW x && plWs r
end
theorem plWs_map {α : Type} {f : α → WData} (h : ∀ a, plW (f a) = true) : ∀ l : List α, plWs (l.map f) = true
  | [] => rfl
  | x :: r => by
    show (plW (f x) && plWs (r.map f)) = true
    rw [h x, plWs_map h r] <;> rfl
theorem pl_enc : ∀ (c : Codec) (a : c.denote), plW (c.enc a) = true
  | .unit, _ => rfl
  | .bool, _ => rfl
  | .int _ _, _ => rfl
  | .nat _ _, _ => rfl
  | .u8, _ => rfl
  | .bytes _ _, _ => rfl
  | .text _ _ _ _, _ => rfl
  | .list _ _ c, a => plWs_map (fun x => pl_enc c x) a
  | .pair c d, a => by
    show (plW (c.enc a.1) && (plW (d.enc a.2) && true)) = true
    rw [pl_enc c a.1, pl_enc d a.2] <;> rfl
  | .triple c d e, a => by
    show (plW (c.enc a.1) && (plW (d.enc a.2.1) && (plW (e.enc a.2.2) && true))) = true
    rw [pl_enc c a.1, pl_enc d a.2.1, pl_enc e a.2.2] <;> rfl
  | .option c, none => rfl
  | .option c, some x => pl_enc c x
theorem pl_encAll : ∀ (cs : List Codec) (a : Codec.denoteAll cs), plWs (Codec.encAll cs a) = true
  | [], _ => rfl
  | c :: cs, a => by
    show (plW (c.enc a.1) && plWs (Codec.encAll cs a.2)) = true
    rw [pl_enc c a.1, pl_encAll cs a.2] <;> rfl
theorem weight_mem : ∀ {xs : List WData} {d : WData}, d ∈ xs → d.weight ≤ WData.weightAll xs
  | [], d, h => absurd h (by simp)
  | x :: r, d, h => by
    show d.weight ≤ x.weight + 1 + WData.weightAll r
    rcases List.mem_cons.mp h with e | m
    · rw [e]
      omega
    · have z := weight_mem m
      omega
def toV : Value → V
  | .none => .non
  | .bool b => .bl b
  | .int i _ => .int i
  | .str x _ => .str x
  | .bytes b _ => .byt b
  | .ref a => .ref a
  | _ => .non
def OkU (A : List Addr) : Value → Prop
  | .none => True
  | .bool _ => True
  | .int _ _ => True
  | .str _ _ => True
  | .bytes _ _ => True
  | .ref a => a ∈ A
  | _ => False
theorem OkU.mono {A B : List Addr} (h : ∀ a ∈ A, a ∈ B) : ∀ {u : Value}, OkU A u → OkU B u := fun {u} x => by
  cases u with
  | ref a => exact h a x
  | none => trivial
  | bool b => trivial
  | int i t => trivial
  | str s t => trivial
  | bytes b t => trivial
  | _ => exact False.elim x
theorem relV_toV {A : List Addr} {u : Value} (x : OkU A u) : RelV (toV u) u := by
  cases u with
  | ref a => rfl
  | none => rfl
  | bool b => rfl
  | int i t => exact ⟨t, rfl⟩
  | str s t => exact ⟨t, rfl⟩
  | bytes b t => exact ⟨t, rfl⟩
  | _ => exact False.elim x
theorem vals_toV {A : List Addr} : ∀ {vs : List Value}, (∀ u ∈ vs, OkU A u) → Vals (vs.map toV) vs
  | [], _ => .nil
  | u :: r, h => .cons (relV_toV (h u (List.mem_cons_self ..))) (vals_toV fun x hx => h x (List.mem_cons_of_mem _ hx))
def ArgOb (h : Heap) (A : List Addr) (a : Addr) : Prop := ∃ vs : List Value, vs.length ≤ sizeLine ∧ (∀ u ∈ vs, OkU A u) ∧
  (h.get? a = some { cls := .type "list", data := .seq vs.toArray } ∨ h.get? a = some { cls := .type "tuple", data := .seq vs.toArray })
theorem ArgOb.mono {h : Heap} {A B : List Addr} {a : Addr} (k : ∀ a ∈ A, a ∈ B) (x : ArgOb h A a) : ArgOb h B a := by
  obtain ⟨vs, h1, h2, h3⟩ := x
  exact ⟨vs, h1, fun u hu => (h2 u hu).mono k, h3⟩
theorem wellAll_len {P : Params} {h : Heap} : ∀ {vs : List Value} {ds : List WData}, WellAll P h vs ds → vs.length = ds.length
  | _, _, .nil => rfl
  | _, _, .cons _ b => by
    show _ + 1 = _ + 1
    rw [wellAll_len b]
theorem well_list {P : Params} {h : Heap} {v : Value} {ds : List WData} (x : Well P h v (.list ds)) : ∃ (a : Addr) (vs : List Value), v = .ref a ∧ h.get? a = some { cls := .type "list", data := .seq vs.toArray } ∧ WellAll P h vs ds := by
  cases x with
  | list ho hall => exact ⟨_, _, rfl, ho, hall⟩
theorem well_tuple {P : Params} {h : Heap} {v : Value} {ds : List WData} (x : Well P h v (.tuple ds)) : ∃ (a : Addr) (vs : List Value), v = .ref a ∧ h.get? a = some { cls := .type "tuple", data := .seq vs.toArray } ∧ WellAll P h vs ds := by
  cases x with
  | tuple ho hall => exact ⟨_, _, rfl, ho, hall⟩
theorem well_cons {P : Params} {h : Heap} {us : List Value} {d : WData} {ds : List WData} (x : WellAll P h us (d :: ds)) : ∃ (v : Value) (vs : List Value), us = v :: vs ∧ Well P h v d ∧ WellAll P h vs ds := by
  cases x with
  | cons a b => exact ⟨_, _, rfl, a, b⟩
theorem line_of {n : Nat} (h : n ≤ 1048576) : n ≤ sizeLine := Nat.le_trans h (by decide)
section
variable {P : Params} {h : Heap}
mutual
theorem area_one : ∀ (d : WData) (v : Value), Well P h v d → plW d = true → d.weight ≤ 1048576 → ∃ A : List Addr, OkU A v ∧ ∀ a ∈ A, ArgOb h A a
  | .none, _, x, _, _ => by
    cases x
    exact ⟨[], trivial, fun a m => absurd m (by simp)⟩
  | .bool b, _, x, _, _ => by
    cases x
    exact ⟨[], trivial, fun a m => absurd m (by simp)⟩
  | .int i, _, x, _, _ => by
    cases x
    exact ⟨[], trivial, fun a m => absurd m (by simp)⟩
  | .str s, _, x, _, _ => by
    cases x
    exact ⟨[], trivial, fun a m => absurd m (by simp)⟩
  | .bytes b, _, x, _, _ => by
    cases x
    exact ⟨[], trivial, fun a m => absurd m (by simp)⟩
  | .list ds, _, x, p, z => by
    obtain ⟨a, vs, rfl, ho, hall⟩ := well_list x
    have z2 : WData.weightAll ds ≤ 1048576 := z
    obtain ⟨A, h1, h2⟩ := area_all ds _ hall p fun d hd => Nat.le_trans (weight_mem hd) z2
    have k : ∀ b ∈ A, b ∈ a :: A := fun b hb => List.mem_cons_of_mem _ hb
    refine ⟨a :: A, List.mem_cons_self .., fun b hb => ?_⟩
    rcases List.mem_cons.mp hb with e | m
    · rw [e]
      exact ⟨vs, line_of (by rw [wellAll_len hall]; exact Nat.le_trans (PySem.W.length_le_weightAllW ds) z2), fun u hu => (h1 u hu).mono k, .inl ho⟩
    · exact (h2 b m).mono k
  | .tuple ds, _, x, p, z => by
    obtain ⟨a, vs, rfl, ho, hall⟩ := well_tuple x
    have z2 : WData.weightAll ds ≤ 1048576 := z
    obtain ⟨A, h1, h2⟩ := area_all ds _ hall p fun d hd => Nat.le_trans (weight_mem hd) z2
    have k : ∀ b ∈ A, b ∈ a :: A := fun b hb => List.mem_cons_of_mem _ hb
    refine ⟨a :: A, List.mem_cons_self .., fun b hb => ?_⟩
    rcases List.mem_cons.mp hb with e | m
    · rw [e]
      exact ⟨vs, line_of (by rw [wellAll_len hall]; exact Nat.le_trans (PySem.W.length_le_weightAllW ds) z2), fun u hu => (h1 u hu).mono k, .inr ho⟩
    · exact (h2 b m).mono k
  | .float _, _, _, p, _ => Bool.noConfusion (show false = true from p)
  | .dict _, _, _, p, _ => Bool.noConfusion (show false = true from p)
  | .bytearray _, _, _, p, _ => Bool.noConfusion (show false = true from p)
  | .set _, _, _, p, _ => Bool.noConfusion (show false = true from p)
  | .frozenset _, _, _, p, _ => Bool.noConfusion (show false = true from p)
  | .obj _ _, _, _, p, _ => Bool.noConfusion (show false = true from p)
theorem area_all : ∀ (ds : List WData) (vs : List Value), WellAll P h vs ds → plWs ds = true → (∀ d ∈ ds, d.weight ≤ 1048576) → ∃ A : List Addr, (∀ u ∈ vs, OkU A u) ∧ ∀ a ∈ A, ArgOb h A a
  | [], _, x, _, _ => by
    cases x
    exact ⟨[], fun u m => absurd m (by simp), fun a m => absurd m (by simp)⟩
  | d :: ds, _, x, p, z => by
    obtain ⟨v, vs, rfl, x1, x2⟩ := well_cons x
    have q : plW d = true ∧ plWs ds = true := Bool.and_eq_true_iff.mp p
    obtain ⟨A, a1, a2⟩ := area_one d v x1 q.1 (z d (List.mem_cons_self ..))
    obtain ⟨B, b1, b2⟩ := area_all ds vs x2 q.2 fun e he => z e (List.mem_cons_of_mem _ he)
    have kA : ∀ b ∈ A, b ∈ A ++ B := fun b hb => List.mem_append.mpr (.inl hb)
    have kB : ∀ b ∈ B, b ∈ A ++ B := fun b hb => List.mem_append.mpr (.inr hb)
    refine ⟨A ++ B, fun u hu => ?_, fun b hb => ?_⟩
    · rcases List.mem_cons.mp hu with e | m
      · rw [e]
        exact a1.mono kA
      · exact (b1 u m).mono kB
    · rcases List.mem_append.mp hb with m | m
      · exact (a2 b m).mono kA
      · exact (b2 b m).mono kB
end
end
def hoOf (o : Obj) : Option HO := match o.data with
  | .seq vs _ => if (o.cls == Value.type "list") = true then some (.frz o (.lst (vs.toList.map toV))) else some (.frz o (.tup (vs.toList.map toV)))
  | _ => none
def argH (K : PySem.W.Frag) (h : Heap) (A : List Addr) : Hp := fun b => if b ∈ A then (if (K.lookup b).isNone = true then (h.get? b).bind hoOf else none) else none
def OnlyF (H : Hp) : Prop := ∀ b, H b = none ∨ ∃ o u, H b = some (.frz o u)
theorem hoOf_lst (vs : List Value) : hoOf { cls := .type "list", data := .seq vs.toArray } = some (.frz { cls := .type "list", data := .seq vs.toArray } (.lst (vs.map toV))) := by
  show (if (Value.type "list" == Value.type "list") = true then some (HO.frz { cls := .type "list", data := .seq vs.toArray } (.lst (vs.toArray.toList.map toV))) else some (HO.frz { cls := .type "list", data := .seq vs.toArray } (.tup (vs.toArray.toList.map toV)))) = _
  rw [if_pos (beq_self_eq_true _)]
theorem hoOf_tup (vs : List Value) : hoOf { cls := .type "tuple", data := .seq vs.toArray } = some (.frz { cls := .type "tuple", data := .seq vs.toArray } (.tup (vs.map toV))) := by
  show (if (Value.type "tuple" == Value.type "list") = true then some (HO.frz { cls := .type "tuple", data := .seq vs.toArray } (.lst (vs.toArray.toList.map toV))) else some (HO.frz { cls := .type "tuple", data := .seq vs.toArray } (.tup (vs.toArray.toList.map toV)))) = _
  rw [if_neg (by decide)]
section
variable {P : Program} {w : World} {K : PySem.W.Frag} {h : Heap} {A : List Addr}
theorem argH_at {b : Addr} {o : Obj} (hb : b ∈ A) (hk : K.lookup b = none) (e : h.get? b = some o) : argH K h A b = hoOf o := by
  unfold argH
  rw [if_pos hb, hk, if_pos (show (none : Option Obj).isNone = true from rfl), e] <;> rfl
theorem of_argH {b : Addr} {u : HO} (q : argH K h A b = some u) : b ∈ A ∧ K.lookup b = none := by
  unfold argH at q
  by_cases hb : b ∈ A
  · rw [if_pos hb] at q
    cases hk : K.lookup b with
    | none => exact ⟨hb, rfl⟩
    | some o =>
      rw [hk, if_neg (by simp)] at q
      cases q
  · rw [if_neg hb] at q
    cases q
theorem argH_is (ar : ∀ a ∈ A, ArgOb h A a) {b : Addr} {u : HO} (q : argH K h A b = some u) : K.lookup b = none ∧ ∃ vs : List Value, vs.length ≤ sizeLine ∧ (∀ u ∈ vs, OkU A u) ∧
    ((h.get? b = some { cls := .type "list", data := .seq vs.toArray } ∧ u = .frz { cls := .type "list", data := .seq vs.toArray } (.lst (vs.map toV))) ∨
     (h.get? b = some { cls := .type "tuple", data := .seq vs.toArray } ∧ u = .frz { cls := .type "tuple", data := .seq vs.toArray } (.tup (vs.map toV)))) := by
  obtain ⟨hb, hk⟩ := of_argH q
  obtain ⟨vs, h1, h2, h3⟩ := ar b hb
  refine ⟨hk, vs, h1, h2, ?_⟩
  rcases h3 with e | e
  · rw [argH_at hb hk e, hoOf_lst] at q
    exact .inl ⟨e, (Option.some.inj q).symm⟩
  · rw [argH_at hb hk e, hoOf_tup] at q
    exact .inr ⟨e, (Option.some.inj q).symm⟩
theorem argH_only (ar : ∀ a ∈ A, ArgOb h A a) : OnlyF (argH K h A) := fun b => by
  cases q : argH K h A b with
  | none => exact .inl rfl
  | some u =>
    obtain ⟨_, vs, _, _, ⟨_, e⟩ | ⟨_, e⟩⟩ := argH_is ar q
    · exact .inr ⟨_, _, by rw [e]⟩
    · exact .inr ⟨_, _, by rw [e]⟩
theorem argH_ok (ar : ∀ a ∈ A, ArgOb h A a) : HOk P w (argH K h A) h := fun b u q => by
  obtain ⟨_, vs, h1, h2, ⟨e, rfl⟩ | ⟨e, rfl⟩⟩ := argH_is ar q
  · exact ⟨e, by rw [List.length_map]; exact h1, vs, _, vals_toV h2, e⟩
  · exact ⟨e, by rw [List.length_map]; exact h1, vs, vals_toV h2, _, e, rfl, _, rfl⟩
theorem seq_inj {c c' : Value} {vs us : List Value} (e : (some { cls := c, data := .seq vs.toArray } : Option Obj) = some { cls := c', data := .seq us.toArray }) : c = c' ∧ vs = us := by
  have e1 := Option.some.inj e
  have e2 : c = c' := congrArg Obj.cls e1
  have e3 : Data.seq vs.toArray = Data.seq us.toArray := congrArg Obj.data e1
  injection e3 with e4
  refine ⟨e2, ?_⟩
  have e5 := congrArg Array.toList e4
  simpa using e5
theorem argL (KX : K.In h) (ar : ∀ a ∈ A, ArgOb h A a) {a : Addr} {vs : List Value} (ha : a ∈ A) (e : h.get? a = some { cls := .type "list", data := .seq vs.toArray }) : (∀ u ∈ vs, OkU A u) ∧ SqL K (argH K h A) a (vs.map toV) := by
  obtain ⟨us, h1, h2, h3⟩ := ar a ha
  have hu : us = vs := by
    rcases h3 with q | q
    · rw [e] at q
      exact (seq_inj q).2.symm
    · rw [e] at q
      exact absurd (Value.type.inj (seq_inj q).1) (by decide)
  subst hu
  refine ⟨h2, ?_⟩
  cases hk : K.lookup a with
  | none => exact .inl (.inr ⟨_, by rw [argH_at ha hk e, hoOf_lst]⟩)
  | some o =>
    have e2 := KX a o hk
    rw [e] at e2
    obtain rfl := Option.some.inj e2
    exact .inr ⟨_, us.toArray, _, hk, rfl, rfl, rfl, by rw [List.size_toArray]; exact h1, by simpa using vals_toV h2⟩
theorem argT (KX : K.In h) (ar : ∀ a ∈ A, ArgOb h A a) {a : Addr} {vs : List Value} (ha : a ∈ A) (e : h.get? a = some { cls := .type "tuple", data := .seq vs.toArray }) : (∀ u ∈ vs, OkU A u) ∧ SqT K (argH K h A) a (vs.map toV) := by
  obtain ⟨us, h1, h2, h3⟩ := ar a ha
  have hu : us = vs := by
    rcases h3 with q | q
    · rw [e] at q
      exact absurd (Value.type.inj (seq_inj q).1) (by decide)
    · rw [e] at q
      exact (seq_inj q).2.symm
  subst hu
  refine ⟨h2, ?_⟩
  cases hk : K.lookup a with
  | none => exact .inl (.inr ⟨_, by rw [argH_at ha hk e, hoOf_tup]⟩)
  | some o =>
    have e2 := KX a o hk
    rw [e] at e2
    obtain rfl := Option.some.inj e2
    exact .inr ⟨_, us.toArray, _, hk, rfl, rfl, by rw [List.size_toArray]; exact h1, by simpa using vals_toV h2⟩
mutual
theorem dw_one {Pm : Params} (KX : K.In h) (ar : ∀ a ∈ A, ArgOb h A a) : ∀ (d : WData) (v : Value), Well Pm h v d → plW d = true → OkU A v → Dw K (argH K h A) (toV v) d
  | .none, _, x, _, _ => by
    cases x
    exact .non
  | .bool b, _, x, _, _ => by
    cases x
    exact .bl b
  | .int i, _, x, _, _ => by
    cases x
    exact .int i
  | .str s, _, x, _, _ => by
    cases x
    exact .str s
  | .bytes b, _, x, _, _ => by
    cases x
    have z := Dw.byt (K := K) (H := argH K h A) b.toArray
    exact z
  | .list ds, _, x, p, hu => by
    obtain ⟨a, vs, rfl, ho, hall⟩ := well_list x
    obtain ⟨h2, hs⟩ := argL KX ar hu ho
    exact .lst hs (dw_all KX ar ds _ hall p h2)
  | .tuple ds, _, x, p, hu => by
    obtain ⟨a, vs, rfl, ho, hall⟩ := well_tuple x
    obtain ⟨h2, hs⟩ := argT KX ar hu ho
    exact .tup hs (dw_all KX ar ds _ hall p h2)
  | .float _, _, _, p, _ => Bool.noConfusion (show false = true from p)
  | .dict _, _, _, p, _ => Bool.noConfusion (show false = true from p)
  | .bytearray _, _, _, p, _ => Bool.noConfusion (show false = true from p)
  | .set _, _, _, p, _ => Bool.noConfusion (show false = true from p)
  | .frozenset _, _, _, p, _ => Bool.noConfusion (show false = true from p)
  | .obj _ _, _, _, p, _ => Bool.noConfusion (show false = true from p)
theorem dw_all {Pm : Params} (KX : K.In h) (ar : ∀ a ∈ A, ArgOb h A a) : ∀ (ds : List WData) (vs : List Value), WellAll Pm h vs ds → plWs ds = true → (∀ u ∈ vs, OkU A u) → DwAll K (argH K h A) (vs.map toV) ds
  | [], _, x, _, _ => by
    cases x
    exact .nil
  | d :: ds, _, x, p, hu => by
    obtain ⟨v, vs, rfl, x1, x2⟩ := well_cons x
    have q : plW d = true ∧ plWs ds = true := Bool.and_eq_true_iff.mp p
    exact .cons (dw_one KX ar d v x1 q.1 (hu _ (List.mem_cons_self ..))) (dw_all KX ar ds vs x2 q.2 fun u m => hu u (List.mem_cons_of_mem _ m))
end
end
theorem spec_call {P : Program} {w : World} {K : PySem.W.Frag} {mg mb : Str → Option Value} {CX : CXT} {k : Nat} {fa : Addr} {fd : FuncData} {ps : List Str} {sp : Sp} {s₁ : Shared} {vals : List Value} {ds : List WData} {R : PySem.W.WRecords} {cl : Str → Option Addr} {d0 : WData}
    (KX : K.In s₁.heap) (hns : s₁.heap.Ns mainGlobals mg) (hb : s₁.heap.Ns builtinsNs mb) (hbb : ∀ x : Str, x ≠ "__name__" → mb x = bootBuiltins x) (hlim : s₁.heap.NoLimit) (hg : s₁.gens = #[])
    (hwl : WellAll w.params s₁.heap vals ds) (hpl : plWs ds = true) (hwt : ∀ d ∈ ds, d.weight ≤ 1048576) (hr : Room k callerA)
    (F : ∀ base : Heap, K.In base → base.Ns mainGlobals mg → FnOk P w K mg base CX k fa fd ps sp) (hbind : ∀ (s : Shared) (us : List Value), us.length = ps.length → BindsTo s fd ⟨us, []⟩ (ps.zip us)) (hlen : ds.length = ps.length)
    (hsp : ∀ (H : Hp) (xs : List V), OnlyF H → DwAll K H xs ds → sp xs H (fun v H' => Dw K H' v d0) fun _ _ _ => False)
    (hCX : ∀ H e s', CX [] H s₁ (fun _ _ _ => False) e s' → False) :
    codeAny (model P w) callerA (.call (.ref fa) ⟨vals, []⟩) (fun r s' => ∃ u as, r = .ok (.ret u) ∧ ReadsW R cl s'.heap u d0 as ∧ OldK s₁.heap s'.heap ∧ s'.os = s₁.os ∧ AllBare s'.gens) s₁ := by
  obtain ⟨A, ho, ar⟩ := area_all ds vals hwl hpl hwt
  have hO : OnlyF (argH K s₁.heap A) := argH_only ar
  have hok : HOk P w (argH K s₁.heap A) s₁.heap := argH_ok ar
  have hS := dw_all KX ar ds vals hwl hpl ho
  have hV := vals_toV ho
  have hK : ∀ b u, argH K s₁.heap A b = some u → K.lookup b = none := fun b u q => (argH_is ar q).1
  have noA : ∀ {b : Addr} {o : Obj} {es : Array DictEntry} {ep : Nat}, s₁.heap.get? b = some o → o.data = .dict es ep → argH K s₁.heap A b = none := fun {b o es ep} e d => by
    cases q : argH K s₁.heap A b with
    | none => rfl
    | some u =>
      obtain ⟨_, vs, _, _, ⟨e2, _⟩ | ⟨e2, _⟩⟩ := argH_is ar q
      · rw [e2] at e
        cases e
        have d' : Data.seq vs.toArray _ = Data.dict es ep := d
        cases d'
      · rw [e2] at e
        cases e
        have d' : Data.seq vs.toArray _ = Data.dict es ep := d
        cases d'
  generalize argH K s₁.heap A = H at hO hok hS hK noA
  have base_of : ∀ {b : Addr} {o : Obj}, s₁.heap.get? b = some o → H b = none → (hidT s₁.heap H).get? b = some o := fun e n => hidT_get e n
  have nsK : ∀ {b : Addr} {m : Str → Option Value}, s₁.heap.Ns b m → (hidT s₁.heap H).Ns b m := fun {b m} ⟨o, es, ep, e, d, r⟩ => ⟨o, es, ep, base_of e (noA e d), d, r⟩
  have nK : ∀ b o, K.lookup b = some o → H b = none := fun b o e => by
    cases q : H b with
    | none => rfl
    | some u =>
      rw [hK b u q] at e
      cases e
  have hKb : K.In (hidT s₁.heap H) := fun b o e => base_of (KX b o e) (nK b o e)
  have hM : Mod K mg (hidT s₁.heap H) := ⟨hKb, nsK hns, ⟨mb, nsK hb, hbb⟩, let ⟨mc, h1, h2⟩ := hlim; ⟨mc, nsK h1, h2⟩⟩
  have e0 : Env0 P w K mg (hidT s₁.heap H) callerA [] s₁ H := ⟨rfl, hM, fun b o e => of_hidT e, Nat.le_of_eq (hidT_size _ _), trivial, fun b hb => absurd (show b ∈ ([] : List Addr) from hb) (by simp), hok, .of_eq hg⟩
  have hl : vals.length = ps.length := by rw [wellAll_len hwl]; exact hlen
  refine codeAny_mono ((F _ hKb (nsK hns)).run callerA [] s₁ H ⟨vals, []⟩ vals (vals.map toV) _ _ hr e0 (hbind s₁ vals hl) hV (hsp H _ hO hS)) fun r s' x => ?_
  cases r with
  | error e => exact (hCX H e s' x).elim
  | ok fl =>
    cases fl with
    | next => exact False.elim x
    | brk => exact False.elim x
    | cont => exact False.elim x
    | ret u =>
      obtain ⟨v, H', os, bare, un, hok', r', q⟩ := x
      have kept : ∀ b o, s₁.heap.get? b = some o → s'.heap.get? b = some o := fun b o e => by
        cases q2 : H b with
        | none => exact un.keep b o e q2 (by intro z; exact absurd (show b ∈ ([] : List Addr) from z) (by simp)) (by simp)
        | some u2 =>
          rcases hO b with z | ⟨ob, u3, z⟩
          · rw [q2] at z
            cases z
          · have z2 := un.frzs b ob _ z
            obtain ⟨e1, _⟩ := hok b _ z
            obtain ⟨e2, _⟩ := hok' b _ z2
            rw [e] at e1
            cases e1
            exact e2
      have KX' : K.In s'.heap := fun b o e => kept b o (KX b o e)
      obtain ⟨as, hrd⟩ := Dw.reads (R := R) (cl := cl) hok' KX' d0 v u q r'
      exact ⟨u, as, rfl, hrd, OldK.of_keep kept, os, bare⟩
theorem layable_weight {ds : List WData} (h : WData.layableAll ds = true) : ∀ d ∈ ds, d.weight ≤ 1048576 := fun d hd =>
  (PySem.W.layableW_iff.mp (List.all_eq_true.mp h d hd)).2.2
theorem encAll_len : ∀ (cs : List Codec) (a : Codec.denoteAll cs), (Codec.encAll cs a).length = cs.length
  | [], _ => rfl
  | c :: cs, a => by
    show (Codec.encAll cs a.2).length + 1 = cs.length + 1
    rw [encAll_len cs a.2]
theorem walk_spec {r : OpenSpec} {k : Nat} {q : Program} {loose : List Str} {XP : (Str → Option Value) → Heap → Prop} {YP : World → Heap → Prop} {d : DefRec} {K : Params → PySem.W.Frag} {CX : World → CXT} {ps : List Str} {sp : World → Sp}
    (hwell : r.wellSaid = true) (hdf : d.params.defaults = []) (hlen : r.args.length = ps.length) (hr : Room k callerA)
    (hY : ∀ (w : World) (h : Heap), YP w h → (K w.params).In h)
    (F : ∀ (w : World) (mg : Str → Option Value) (fa : Addr) (h : Heap), YP w h → (K w.params).In h → h.Ns mainGlobals mg → mg d.name = some (.ref fa) →
      ∃ fd : FuncData, (∀ (s : Shared) (us : List Value), us.length = ps.length → BindsTo s fd ⟨us, []⟩ (ps.zip us)) ∧
        ∀ base : Heap, (K w.params).In base → base.Ns mainGlobals mg → FnOk r.prog w (K w.params) mg base (CX w) k fa fd ps (sp w))
    (hsp : ∀ (w : World) (H : Hp) (xs : List V) (a : Codec.denoteAll r.args), OnlyF H → Codec.withinAll r.args a = true → Codec.app r.args r.asked a = true → DwAll (K w.params) H xs (Codec.encAll r.args a) →
      sp w xs H (fun v H' => Dw (K w.params) H' v (r.ret.enc (Codec.app r.args r.f a))) fun _ _ _ => False)
    (hCX : ∀ (w : World) (H : Hp) (s : Shared) (e : Value) (s' : Shared), CX w [] H s (fun _ _ _ => False) e s' → False) :
    PySem.W.WalkOS q loose XP YP r d [] (fun f vs => PySem.call f vs) := by
  intro w s_0 s₁ mg mb G Y fa o pm cd doc dV kV ho hd hcd hD hmg hg args vals as hpre hlay hrd hwl hlo
  obtain ⟨a, e1, e2⟩ := PySem.W.os_pre_some hpre
  obtain ⟨e3, hwi⟩ := Codec.encAll_of_decAll r.args args a e1
  subst e3
  have KX := hY w _ Y
  obtain ⟨fd, hb, hF⟩ := F w mg fa _ Y KX G.T.g hmg
  refine PySem.W.enter_call (codeAny_mono (spec_call (R := []) (cl := classAt s_0.heap) (d0 := r.ret.enc (Codec.app r.args r.f a)) KX G.T.g G.T.b G.T.builtins G.T.nolimit hg hwl (pl_encAll _ _) (layable_weight hlay) hr hF hb (by rw [encAll_len]; exact hlen)
    (fun H xs hO hS => hsp w H xs a hO hwi e2 hS) fun H e s' => hCX w H s₁ e s') fun r' s' hq => ?_)
  obtain ⟨u, as', rfl, h1, h2, h3, h4⟩ := hq
  exact ⟨.inl ⟨u, _, as', rfl, fun _ => rfl, h1, (OpenSpec.post_iff hwell hwi _ _).mpr rfl, fun z => Bool.noConfusion (show false = true from z)⟩, h2, h3, h4⟩
theorem walk_specK {r : OpenSpec} {k : Nat} {q : Program} {loose : List Str} {XP : (Str → Option Value) → Heap → Prop} {YP : World → Heap → Prop} {d : DefRec} {K : Params → PySem.W.Frag} {CX : CXT} {ps : List Str} {sp : PySem.W.Frag → Sp}
    (hwell : r.wellSaid = true) (hdf : d.params.defaults = []) (hlen : r.args.length = ps.length) (hr : Room k callerA)
    (hY : ∀ (w : World) (h : Heap), YP w h → (K w.params).In h)
    (F : ∀ (w : World) (mg : Str → Option Value) (fa : Addr) (h : Heap), YP w h → (K w.params).In h → h.Ns mainGlobals mg → mg d.name = some (.ref fa) →
      ∃ fd : FuncData, (∀ (s : Shared) (us : List Value), us.length = ps.length → BindsTo s fd ⟨us, []⟩ (ps.zip us)) ∧
        ∀ base : Heap, (K w.params).In base → base.Ns mainGlobals mg → FnOk r.prog w (K w.params) mg base CX k fa fd ps (sp (K w.params)))
    (hsp : ∀ (K : PySem.W.Frag) (H : Hp) (xs : List V) (a : Codec.denoteAll r.args), OnlyF H → Codec.withinAll r.args a = true → Codec.app r.args r.asked a = true → DwAll K H xs (Codec.encAll r.args a) →
      sp K xs H (fun v H' => Dw K H' v (r.ret.enc (Codec.app r.args r.f a))) fun _ _ _ => False)
    (hCX : ∀ (H : Hp) (s : Shared) (e : Value) (s' : Shared), CX [] H s (fun _ _ _ => False) e s' → False) :
    PySem.W.WalkOS q loose XP YP r d [] (fun f vs => PySem.call f vs) :=
  walk_spec (K := K) (CX := fun _ => CX) (sp := fun w => sp (K w.params)) hwell hdf hlen hr hY F (fun w H xs a h1 h2 h3 h4 => hsp (K w.params) H xs a h1 h2 h3 h4) fun _ H s e s' => hCX H s e s'
end L2
end
end
section
set_option maxHeartbeats 2000000
namespace Sn
theorem z1L : 1 ≤ PySem.sizeLine := by show 1 ≤ 2 ^ 24; decide
theorem z0L : 0 ≤ PySem.sizeLine := by show 0 ≤ 2 ^ 24; decide
open PySem PySem.Spec PyProof.Rows L2
def hid (p : Addr) (H : Hp) : Hp := fun b => if b = p then none else H b
theorem hid_same (p : Addr) (H : Hp) : Same (hid p H) H := fun b o e => by
  unfold hid at e
  split at e
  · cases e
  · exact e
theorem hid_mono {p : Addr} {H H' : Hp} (h : Same H H') : Same (hid p H) (hid p H') := fun b o e => by
  unfold hid at e ⊢
  split at e
  · cases e
  · rename_i hb; rw [if_neg hb]; exact h b o e
theorem hid_upd {p : Addr} {H : Hp} {o : HO} : hid p (upd H p o) = hid p H := by
  funext b
  unfold hid
  split
  · rfl
  · rename_i hb; rw [upd_ne hb]
theorem _root_.L2.Same.new {H : Hp} {p : Addr} {o : HO} (h : H p = none) : Same H (upd H p o) := fun b u e => by
  rw [upd_ne (ne_of_none e h)]; exact e
theorem _root_.L2.Same.upd {H H' : Hp} {p : Addr} {o : HO} (s : Same H H') (h : H p = none) : Same H (upd H' p o) := fun b u e => by
  rw [upd_ne (ne_of_none e h)]; exact s b u e
theorem hid_at {p b : Addr} {H : Hp} {o : HO} (h : H b = some o) (n : b ≠ p) : hid p H b = some o := by
  unfold hid; rw [if_neg n]; exact h
theorem _root_.L2.Same.hid {H H' : Hp} {p : Addr} (s : Same H H') (h : H p = none) : Same H (hid p H') := fun b u e => hid_at (s b u e) (ne_of_none e h)
def bv (x : UInt8) : V := .int (x.toNat : Int)
def bvs (b : Sp.Bytes) : List V := b.map bv
def nv (n : Nat) : V := .int (n : Int)
def nvs (l : List Nat) : List V := l.map nv
def IsB (H : Hp) (v : V) (b : Sp.Bytes) : Prop := ∃ a, v = .ref a ∧ H a = some (.lst (bvs b))
def IsN (H : Hp) (v : V) (l : List Nat) : Prop := ∃ a, v = .ref a ∧ H a = some (.lst (nvs l))
def AllB (H : Hp) (vs : List V) (rs : List Sp.Bytes) : Prop := vs.length = rs.length ∧ ∀ (i : Nat) (v : V) (r : Sp.Bytes), vs[i]? = some v → rs[i]? = some r → IsB H v r
def IsR (H : Hp) (v : V) (rs : List Sp.Bytes) : Prop := ∃ a vs, v = .ref a ∧ H a = some (.lst vs) ∧ AllB H vs rs
theorem IsB.mono {H H' : Hp} {v : V} {b : Sp.Bytes} (s : Same H H') (h : IsB H v b) : IsB H' v b := let ⟨a, e, h⟩ := h; ⟨a, e, s _ _ h⟩
theorem AllB.mono {H H' : Hp} {vs : List V} {rs : List Sp.Bytes} (s : Same H H') (h : AllB H vs rs) : AllB H' vs rs := ⟨h.1, fun i v r e1 e2 => (h.2 i v r e1 e2).mono s⟩
theorem IsR.mono {H H' : Hp} {v : V} {rs : List Sp.Bytes} (s : Same H H') (h : IsR H v rs) : IsR H' v rs := let ⟨a, vs, e, h, q⟩ := h; ⟨a, vs, e, s _ _ h, q.mono s⟩
def RB (H : Hp) (Q : VK) (b : Sp.Bytes) : Prop := ∀ (H' : Hp) (a : Addr), Same H H' → H a = none → H' a = some (.lst (bvs b)) → Q (.ref a) H'
structure Acc (H1 : Hp) (D : Addr) (R : Nat → V → Hp → Prop) (i : Nat) (H : Hp) : Prop where
  same : Same H1 H
  ex : ∃ ys, H D = some (.lst ys) ∧ ys.length = i ∧ ∀ j y, ys[j]? = some y → R j y (hid D H)
theorem Acc.start {H1 : Hp} {D : Addr} {R : Nat → V → Hp → Prop} (h : H1 D = none) : Acc H1 D R 0 (upd H1 D (.lst [])) :=
  ⟨.new h, [], upd_same, rfl, fun j y e => by simp at e⟩
theorem Acc.push {H1 : Hp} {D : Addr} {R : Nat → V → Hp → Prop} (hR : ∀ i v H H', Same H H' → R i v H → R i v H') {i : Nat} {H H4 : Hp} {y : V} (h : H1 D = none) (p : Acc H1 D R i H) (s : Same H H4) (r : R i y (hid D H4)) (hi : i < 16777216) :
    ∃ acc, H4 D = some (.lst acc) ∧ acc.length < sizeLine ∧ Acc H1 D R (i + 1) (upd H4 D (.lst (acc ++ [y]))) := by
  obtain ⟨ys, h1, h2, h3⟩ := p.ex
  refine ⟨ys, s _ _ h1, by show ys.length < 2 ^ 24; omega, (p.same.trans s).upd h, ys ++ [y], upd_same, by simp [h2], fun j z e => ?_⟩
  rw [hid_upd]
  by_cases hj : j < ys.length
  · rw [List.getElem?_append_left hj] at e
    exact hR _ _ _ _ (hid_mono s) (h3 j z e)
  · rw [List.getElem?_append_right (by omega)] at e
    have : j = i := by
      have : j - ys.length = 0 := by
        cases q : j - ys.length with
        | zero => rfl
        | succ n => rw [q] at e; simp at e
      omega
    subst this
    rw [show j - ys.length = 0 by omega] at e
    have e2 : y = z := by simpa using e
    subst e2
    exact r
theorem vals_of {ys : List V} {n : Nat} {F : Nat → V} (h : ys.length = n) (e : ∀ j y, ys[j]? = some y → y = F j) : ys = (List.range n).map F := by
  refine List.ext_getElem (by simp [h]) fun i h1 h2 => ?_
  rw [List.getElem_map, List.getElem_range]
  exact e i _ (List.getElem?_eq_getElem h1)
theorem lc_zip {K : PySem.W.Frag} {a b : Addr} {xs ys : List V} {g : TG} {tt : TT} {te : TE} {vs : List Nat} {σ : L2.St} {H1 : Hp} {D : Addr} {Qd : Hp → Prop} (Pv : Nat → Hp → Prop) (h0 : Pv 0 (upd H1 D (.lst [])))
    (hl : ∀ i H, Pv i H → SqL K H a xs ∧ SqL K H b ys)
    (hs : ∀ i x y H T, xs[i]? = some x → ys[i]? = some y → Pv i H → H T = none → g (.ref T) (wipe σ vs) (upd H T (.tup [x, y])) fun σ2 H2 => wipe σ2 vs = wipe σ vs ∧ tt σ2 H2 fun b H3 =>
      if b = true then te σ2 H3 fun y H4 => ∃ acc, H4 D = some (.lst acc) ∧ acc.length < sizeLine ∧ Pv (i + 1) (upd H4 D (.lst (acc ++ [y]))) else Pv (i + 1) H3) (hd : ∀ H, Pv (min xs.length ys.length) H → Qd H) :
    ∃ W : Nat → Nat → Hp → Prop, (∃ m, W 0 m (upd H1 D (.lst []))) ∧ ∀ i m H, W i m H →
      ((Itz K a b).stop i H ∧ Qd H) ∨ ((Itz K a b).go i H ∧ ∃ Nx : Hp → Prop, (∀ H', Nx H' → ∃ m', m' < m ∧ W (i + 1) m' H') ∧ ∀ x H', (Itz K a b).yld i H x H' → g x (wipe σ vs) H' fun σ2 H2 => wipe σ2 vs = wipe σ vs ∧ tt σ2 H2 fun b H3 =>
        if b = true then te σ2 H3 fun y H4 => ∃ acc, H4 D = some (.lst acc) ∧ acc.length < sizeLine ∧ Nx (upd H4 D (.lst (acc ++ [y]))) else Nx H3) := by
  refine ⟨fun i m H => m = min xs.length ys.length - i ∧ i ≤ min xs.length ys.length ∧ Pv i H, ⟨min xs.length ys.length, by simp, Nat.zero_le _, h0⟩, ?_⟩
  rintro i m H ⟨rfl, hi, p⟩
  obtain ⟨qa, qb⟩ := hl i H p
  by_cases hlt : i < min xs.length ys.length
  · have h1 : i < xs.length := by omega
    have h2 : i < ys.length := by omega
    refine .inr ⟨⟨xs, ys, xs[i], ys[i], qa, qb, by simp [h1], by simp [h2]⟩, Pv (i + 1), fun H' p' => ⟨min xs.length ys.length - (i + 1), by omega, rfl, hlt, p'⟩, fun x H' y => ?_⟩
    obtain ⟨T, x1, y1, rfl, hT, rfl, e1, e2⟩ := y
    exact hs i x1 y1 H T (e1 xs qa) (e2 ys qb) p hT
  · have e : i = min xs.length ys.length := by omega
    refine .inl ⟨⟨xs, ys, qa, qb, by omega⟩, ?_⟩
    rw [e] at p
    exact hd H p
theorem for_zip {K : PySem.W.Frag} {a b : Addr} {xs ys : List V} {g : TG} {tb : TS} {D : Ends} {σ : L2.St} {H : Hp} (Pv : Nat → L2.St → Hp → Prop) (h0 : Pv 0 σ H) (hl : ∀ i σ H, Pv i σ H → SqL K H a xs ∧ SqL K H b ys)
    (hs : ∀ i x y σ H T, xs[i]? = some x → ys[i]? = some y → Pv i σ H → H T = none → g (.ref T) σ (upd H T (.tup [x, y])) fun σ2 H2 => tb { D with nx := Pv (i + 1), ct := Pv (i + 1), bk := D.nx } σ2 H2) (hd : ∀ σ H, Pv (min xs.length ys.length) σ H → D.nx σ H) :
    ∃ W : Nat → Nat → L2.St → Hp → Prop, (∃ m, W 0 m σ H) ∧ ∀ i m σ H, W i m σ H →
      ((Itz K a b).stop i H ∧ D.nx σ H) ∨ ((Itz K a b).go i H ∧ ∃ N : L2.St → Hp → Prop, (∀ σ' H', N σ' H' → ∃ m', m' < m ∧ W (i + 1) m' σ' H') ∧ ∀ x H', (Itz K a b).yld i H x H' → g x σ H' fun σ2 H2 => tb { D with nx := N, ct := N, bk := D.nx } σ2 H2) := by
  refine ⟨fun i m σ H => m = min xs.length ys.length - i ∧ i ≤ min xs.length ys.length ∧ Pv i σ H, ⟨min xs.length ys.length, by simp, Nat.zero_le _, h0⟩, ?_⟩
  rintro i m σ H ⟨rfl, hi, p⟩
  obtain ⟨qa, qb⟩ := hl i σ H p
  by_cases hlt : i < min xs.length ys.length
  · have h1 : i < xs.length := by omega
    have h2 : i < ys.length := by omega
    refine .inr ⟨⟨xs, ys, xs[i], ys[i], qa, qb, by simp [h1], by simp [h2]⟩, Pv (i + 1), fun σ' H' p' => ⟨min xs.length ys.length - (i + 1), by omega, rfl, hlt, p'⟩, fun x H' y => ?_⟩
    obtain ⟨T, x1, y1, rfl, hT, rfl, e1, e2⟩ := y
    exact hs i x1 y1 σ H T (e1 xs qa) (e2 ys qb) p hT
  · have e : i = min xs.length ys.length := by omega
    refine .inl ⟨⟨xs, ys, qa, qb, by omega⟩, ?_⟩
    rw [e] at p
    exact hd σ H p
theorem for_rev {K : PySem.W.Frag} {a : Addr} {xs : List V} {g : TG} {tb : TS} {D : Ends} {σ : L2.St} {H : Hp} (Pv : Nat → L2.St → Hp → Prop) (h0 : Pv 0 σ H) (hl : ∀ i σ H, Pv i σ H → SqL K H a xs)
    (hs : ∀ i x σ H, i < xs.length → xs[xs.length - 1 - i]? = some x → Pv i σ H → g x σ H fun σ2 H2 => tb { D with nx := Pv (i + 1), ct := Pv (i + 1), bk := D.nx } σ2 H2) (hd : ∀ σ H, Pv xs.length σ H → D.nx σ H) :
    ∃ W : Nat → Nat → L2.St → Hp → Prop, (∃ m, W 0 m σ H) ∧ ∀ i m σ H, W i m σ H →
      ((Itv K a xs.length).stop i H ∧ D.nx σ H) ∨ ((Itv K a xs.length).go i H ∧ ∃ N : L2.St → Hp → Prop, (∀ σ' H', N σ' H' → ∃ m', m' < m ∧ W (i + 1) m' σ' H') ∧ ∀ x H', (Itv K a xs.length).yld i H x H' → g x σ H' fun σ2 H2 => tb { D with nx := N, ct := N, bk := D.nx } σ2 H2) := by
  refine ⟨fun i m σ H => m = xs.length - i ∧ i ≤ xs.length ∧ Pv i σ H, ⟨xs.length, by simp, Nat.zero_le _, h0⟩, ?_⟩
  rintro i m σ H ⟨rfl, hi, p⟩
  have qa := hl i σ H p
  by_cases hlt : i < xs.length
  · refine .inr ⟨⟨hlt, xs, xs[xs.length - 1 - i], qa, List.getElem?_eq_getElem (by omega)⟩, Pv (i + 1), fun σ' H' p' => ⟨xs.length - (i + 1), by omega, rfl, hlt, p'⟩, fun x H' y => ?_⟩
    obtain ⟨rfl, e1⟩ := y
    exact hs i x σ _ hlt (e1 xs qa) p
  · have e : i = xs.length := by omega
    refine .inl ⟨by show xs.length ≤ i; omega, ?_⟩
    rw [e] at p
    exact hd σ H p
theorem lc_rangeC {lo c : Int} {n : Nat} {g : TG} {tt : TT} {te : TE} {vs : List Nat} {σ : L2.St} {H1 : Hp} {D : Addr} {Qd : Hp → Prop} (Pv : Nat → Hp → Prop) (h0 : Pv 0 (upd H1 D (.lst [])))
    (hs : ∀ i H, i < n → Pv i H → g (.int (lo + (i : Nat) * c)) (wipe σ vs) H fun σ2 H2 => wipe σ2 vs = wipe σ vs ∧ tt σ2 H2 fun b H3 =>
      if b = true then te σ2 H3 fun y H4 => ∃ acc, H4 D = some (.lst acc) ∧ acc.length < sizeLine ∧ Pv (i + 1) (upd H4 D (.lst (acc ++ [y]))) else Pv (i + 1) H3) (hd : ∀ H, Pv n H → Qd H) :
    ∃ W : Nat → Nat → Hp → Prop, (∃ m, W 0 m (upd H1 D (.lst []))) ∧ ∀ i m H, W i m H →
      ((Itc lo c n).stop i H ∧ Qd H) ∨ ((Itc lo c n).go i H ∧ ∃ Nx : Hp → Prop, (∀ H', Nx H' → ∃ m', m' < m ∧ W (i + 1) m' H') ∧ ∀ x H', (Itc lo c n).yld i H x H' → g x (wipe σ vs) H' fun σ2 H2 => wipe σ2 vs = wipe σ vs ∧ tt σ2 H2 fun b H3 =>
        if b = true then te σ2 H3 fun y H4 => ∃ acc, H4 D = some (.lst acc) ∧ acc.length < sizeLine ∧ Nx (upd H4 D (.lst (acc ++ [y]))) else Nx H3) := by
  refine ⟨fun i m H => m = n - i ∧ i ≤ n ∧ Pv i H, ⟨n, by simp, Nat.zero_le _, h0⟩, ?_⟩
  rintro i m H ⟨rfl, hi, p⟩
  by_cases hlt : i < n
  · refine .inr ⟨hlt, Pv (i + 1), fun H' p' => ⟨n - (i + 1), by omega, rfl, hlt, p'⟩, fun x H' y => ?_⟩
    obtain ⟨e, y⟩ := y
    subst e y
    exact hs i _ hlt p
  · have e : i = n := by omega
    subst e
    exact .inl ⟨Nat.le_refl _, hd H p⟩
theorem cut_both (xs : List V) {lo hi : Nat} (h : lo ≤ hi) : cutV xs (some (lo : Int)) (some (hi : Int)) = (xs.drop lo).take (hi - lo) := by
  unfold cutV
  rw [HT.sIx_nat, HT.sIx_nat]
  by_cases h1 : lo ≤ xs.length
  · rw [Nat.min_eq_left h1]
    by_cases h2 : hi ≤ xs.length
    · rw [Nat.min_eq_left h2]
    · rw [Nat.min_eq_right (by omega), List.take_of_length_le (by simp), List.take_of_length_le (by simp; omega)]
  · rw [List.drop_eq_nil_of_le (as := xs) (i := min lo xs.length) (by omega), List.drop_eq_nil_of_le (as := xs) (i := lo) (by omega)]
    simp
theorem cut_lo (xs : List V) (lo : Nat) : cutV xs (some (lo : Int)) none = xs.drop lo := by
  unfold cutV
  rw [HT.sIx_nat, HT.sIx_none]
  by_cases h1 : lo ≤ xs.length
  · rw [Nat.min_eq_left h1, List.take_of_length_le (by simp)]
  · rw [List.drop_eq_nil_of_le (as := xs) (i := min lo xs.length) (by omega), List.drop_eq_nil_of_le (as := xs) (i := lo) (by omega)]
    simp
theorem cut_hi (xs : List V) (hi : Nat) : cutV xs none (some (hi : Int)) = xs.take hi := by
  unfold cutV
  rw [HT.sIx_nat, HT.sIx_none, List.drop_zero, Nat.sub_zero]
  by_cases h2 : hi ≤ xs.length
  · rw [Nat.min_eq_left h2]
  · rw [Nat.min_eq_right (by omega), List.take_of_length_le (Nat.le_refl _), List.take_of_length_le (by omega)]
theorem bvs_drop (b : Sp.Bytes) (n : Nat) : (bvs b).drop n = bvs (b.drop n) := by unfold bvs; rw [List.map_drop]
theorem bvs_take (b : Sp.Bytes) (n : Nat) : (bvs b).take n = bvs (b.take n) := by unfold bvs; rw [List.map_take]
theorem nvs_drop (b : List Nat) (n : Nat) : (nvs b).drop n = nvs (b.drop n) := by unfold nvs; rw [List.map_drop]
theorem nvs_take (b : List Nat) (n : Nat) : (nvs b).take n = nvs (b.take n) := by unfold nvs; rw [List.map_take]
structure Gd (P : Program) (w : World) (K : PySem.W.Frag) (mg : Str → Option Value) (base : Heap) (k : Nat) (x : Str) (ps : List Str) (sp : L2.Sp) : Prop where
  ex : ∃ f fd, FnOk P w K mg base CX0 k f fd ps sp ∧ mg x = some (.ref f) ∧ PySem.W.keepIn K (.ref f) = true ∧ Binds K fd ps []
section
variable {X : Cx} {k : Nat} {x : Str} {ps : List Str} {sp : L2.Sp} {p pos : Pos} {e : Expr} {es : List Expr} {t : TA}
theorem pe_g (g : Gd X.prog X.w X.K X.mg X.base k x ps sp) (hr : Room k X.A) (hg : Gl X x) (ha : PA X (e :: es) t) (hdb : (x == ("__debug__" : Str)) = false := by decide)
    (he : starEach (e :: es) X.env = (false, eval e X.env) :: starEach es X.env := by rfl) (hpl : (backTo pos (starEach es X.env)).any (·.1) = false := by rfl) :
    PE X (.Call (.Name x p) (e :: es) [] pos) (tCall sp [] E0 t) := by
  obtain ⟨f, fd, F, hm, hk, hb⟩ := g.ex
  exact pe_call F hr hg hm hk hb .nil pass0 ha hdb he hpl
end
theorem bvs_get {a : Sp.Bytes} {i : Nat} {x : V} (h : (bvs a)[i]? = some x) : i < a.length ∧ x = bv (a.getD i 0) := by
  unfold bvs at h
  rw [List.getElem?_map] at h
  cases e : a[i]? with
  | none => rw [e] at h; cases h
  | some c =>
    rw [e] at h
    cases h
    refine ⟨(List.getElem?_eq_some_iff.mp e).1, ?_⟩
    rw [List.getD_eq_getElem?_getD, e]; rfl
theorem nvs_get {a : List Nat} {i : Nat} {x : V} (h : (nvs a)[i]? = some x) : i < a.length ∧ x = nv (a.getD i 0) := by
  unfold nvs at h
  rw [List.getElem?_map] at h
  cases e : a[i]? with
  | none => rw [e] at h; cases h
  | some c =>
    rw [e] at h
    cases h
    refine ⟨(List.getElem?_eq_some_iff.mp e).1, ?_⟩
    rw [List.getD_eq_getElem?_getD, e]; rfl
theorem bvs_at {a : Sp.Bytes} {i : Nat} (h : i < a.length) : (bvs a)[i]? = some (bv (a.getD i 0)) := by
  unfold bvs; rw [List.getElem?_map, List.getD_eq_getElem?_getD, List.getElem?_eq_getElem h]; rfl
theorem nvs_at {a : List Nat} {i : Nat} (h : i < a.length) : (nvs a)[i]? = some (nv (a.getD i 0)) := by
  unfold nvs; rw [List.getElem?_map, List.getD_eq_getElem?_getD, List.getElem?_eq_getElem h]; rfl
theorem bvs_len (a : Sp.Bytes) : (bvs a).length = a.length := by unfold bvs; simp
theorem nvs_len (a : List Nat) : (nvs a).length = a.length := by unfold nvs; simp
theorem bvs_range (n : Nat) (f : Nat → UInt8) : bvs ((List.range n).map f) = (List.range n).map fun j => bv (f j) := by unfold bvs; rw [List.map_map]; rfl
theorem xor_range (a b : Sp.Bytes) : Sp.xor a b = (List.range (min a.length b.length)).map fun j => a.getD j 0 ^^^ b.getD j 0 := by
  unfold Sp.xor
  refine List.ext_getElem (by simp) fun i h1 h2 => ?_
  simp only [List.length_map, List.length_range] at h2
  simp [show i < a.length by omega, show i < b.length by omega]
structure Bi (mg : Str → Option Value) : Prop where
  len : mg "len" = none
  range : mg "range" = none
  zip : mg "zip" = none
  min : mg "min" = none
  max : mg "max" = none
  any : mg "any" = none
  all : mg "all" = none
  list : mg "list" = none
  reversed : mg "reversed" = none
  enumerate : mg "enumerate" = none
def CInt (mg : Str → Option Value) (x : Str) (i : Int) : Prop := ∃ t, mg x = some (.int i t)
theorem pe_ci {X : Cx} {x : Str} {i : Int} {pos : Pos} (h : CInt X.mg x i) (hg : Gl X x) (hd : (x == ("__debug__" : Str)) = false := by decide) : PE X (.Name x pos) (tC (.int i)) := by
  obtain ⟨t, h⟩ := h
  exact pe_glob hg h ⟨t, rfl⟩ hd
theorem pe_gr {X : Cx} {x : Str} {a : Addr} {pos : Pos} (hg : Gl X x) (hm : X.mg x = some (.ref a)) (hd : (x == ("__debug__" : Str)) = false := by decide) : PE X (.Name x pos) (tC (.ref a)) := pe_glob (v := .ref a) hg hm rfl hd
theorem boot_any : bootBuiltins "any" = some (.builtin "any") := by rfl
theorem boot_all : bootBuiltins "all" = some (.builtin "all") := by rfl
theorem boot_min : bootBuiltins "min" = some (.builtin "min") := by rfl
theorem boot_max : bootBuiltins "max" = some (.builtin "max") := by rfl
theorem boot_list : bootBuiltins "list" = some (.type "list") := by rfl
def tChain4 (r1 r2 r3 r4 : R2) (ta tb tc td te : TE) : TE := fun σ H Q => ta σ H fun x H1 => tb σ H1 fun y H2 => r1 x y H2 fun z H3 => ∃ k, z = .bl k ∧
  (if k = true then tc σ H3 fun u H4 => r2 y u H4 fun z2 H5 => ∃ k2, z2 = .bl k2 ∧
    (if k2 = true then td σ H5 fun v H6 => r3 u v H6 fun z3 H7 => ∃ k3, z3 = .bl k3 ∧
      (if k3 = true then te σ H7 fun w' H8 => r4 v w' H8 Q else Q (.bl false) H7) else Q (.bl false) H5) else Q (.bl false) H3)
theorem pe_chain4 {X : Cx} {a b c d e : Expr} {ta tb tc td te : TE} {pos : Pos} {op1 op2 op3 op4 : CmpOp} {r1 r2 r3 r4 : R2} (ho1 : OpR X (compareOp op1) r1) (ho2 : OpR X (compareOp op2) r2) (ho3 : OpR X (compareOp op3) r3) (ho4 : OpR X (compareOp op4) r4)
    (ha : PE X a ta) (hb : PE X b tb) (hc : PE X c tc) (hd : PE X d td) (he : PE X e te) (hm : lastMarks [op1, op2, op3, op4] [b, c, d, e] = false := by with_unfolding_all rfl) : PE X (.Compare a [op1, op2, op3, op4] [b, c, d, e] pos) (tChain4 r1 r2 r3 r4 ta tb tc td te) := by
  intro pins s σ H Q I h
  refine Compare_chain (thn (ha pins s σ H _ I h) fun v s1 ⟨x, H1, I1, q1, h1⟩ => chain_link (thn (hb pins s1 σ H1 _ I1 h1) fun u s2 ⟨y, H2, I2, q2, h2⟩ =>
    thn (ho1 pins s2 σ H2 x y v u _ I2 q1 q2 h2) fun d0 s3 ⟨z, H3, I3, q3, k, ek, h3⟩ => ?_)) hm
  subst ek
  cases q3
  refine wpAny_truthy_bool ?_
  cases k with
  | false => exact ite_ff ⟨.bl false, H3, I3, rfl, h3⟩
  | true =>
    refine ite_tt (chain_link (thn (hc pins s3 σ H3 _ I3 h3) fun u2 s4 ⟨y2, H4, I4, q4, h4⟩ => thn (ho2 pins s4 σ H4 y y2 u u2 _ I4 q2 q4 h4) fun d1 s5 ⟨z2, H5, I5, q5, k2, ek2, h5⟩ => ?_))
    subst ek2
    cases q5
    refine wpAny_truthy_bool ?_
    cases k2 with
    | false => exact ite_ff ⟨.bl false, H5, I5, rfl, h5⟩
    | true =>
      refine ite_tt (chain_link (thn (hd pins s5 σ H5 _ I5 h5) fun u3 s6 ⟨y3, H6, I6, q6, h6⟩ => thn (ho3 pins s6 σ H6 y2 y3 u2 u3 _ I6 q4 q6 h6) fun d2 s7 ⟨z3, H7, I7, q7, k3, ek3, h7⟩ => ?_))
      subst ek3
      cases q7
      refine wpAny_truthy_bool ?_
      cases k3 with
      | false => exact ite_ff ⟨.bl false, H7, I7, rfl, h7⟩
      | true => exact ite_tt (chain_last (thn (he pins s7 σ H7 _ I7 h7) fun w' s8 ⟨z', H8, I8, q8, h8⟩ => ho4 pins s8 σ H8 y3 z' u3 w' Q I8 q6 q8 h8))
structure Cc (K : PySem.W.Frag) (C : Addr) : Prop where
  cl : Cls K C
  nk : NoAttr K C "k"
  nd : NoAttr K C "d"
  nn : NoAttr K C "n"
  nw : NoAttr K C "width"
def codeF (c : Sp.Code) : List (Str × V) := putF "width" (nv c.len) (putF "n" (nv c.n) (putF "d" (nv c.d) (putF "k" (nv c.k) [])))
theorem codeF_k (c : Sp.Code) : (codeF c).lookup ("k" : Str) = some (nv c.k) := by unfold codeF; simp only [lookup_putF]; rfl
theorem codeF_d (c : Sp.Code) : (codeF c).lookup ("d" : Str) = some (nv c.d) := by unfold codeF; simp only [lookup_putF]; rfl
theorem codeF_n (c : Sp.Code) : (codeF c).lookup ("n" : Str) = some (nv c.n) := by unfold codeF; simp only [lookup_putF]; rfl
theorem codeF_w (c : Sp.Code) : (codeF c).lookup ("width" : Str) = some (nv c.len) := by unfold codeF; simp only [lookup_putF]; rfl
def IsCode (C : Addr) (H : Hp) (v : V) (c : Sp.Code) : Prop := ∃ a dx, v = .ref a ∧ H a = some (.ins C dx (codeF c))
theorem IsCode.mono {C : Addr} {H H' : Hp} {v : V} {c : Sp.Code} (s : Same H H') (h : IsCode C H v c) : IsCode C H' v c := let ⟨a, dx, e, h⟩ := h; ⟨a, dx, e, s _ _ h⟩
def nw (H H' : Hp) : Hp := fun b => match H b with
  | none => H' b
  | some _ => none
theorem nw_same (H H' : Hp) : Same (nw H H') H' := fun b o e => by
  unfold nw at e
  cases q : H b with
  | none => rw [q] at e; exact e
  | some u => rw [q] at e; cases e
theorem nw_at {H H' : Hp} {b : Addr} {o : HO} (h : H b = none) (e : H' b = some o) : nw H H' b = some o := by
  unfold nw; rw [h]; exact e
theorem nw_of {H H' : Hp} {b : Addr} {o : HO} (e : nw H H' b = some o) : H b = none ∧ H' b = some o := by
  unfold nw at e
  cases q : H b with
  | none => rw [q] at e; exact ⟨rfl, e⟩
  | some u => rw [q] at e; cases e
def RR (H : Hp) (Q : VK) (rs : List Sp.Bytes) : Prop := ∀ (H' : Hp) (v : V), Same H H' → IsR (nw H H') v rs → Q v H'
theorem qv {Q : VK} {H : Hp} {v v' : V} (e : v = v') (h : Q v' H) : Q v H := by rw [e]; exact h
def top (i : Nat) : Stmt := PySem.Challenge.pw_spreadnodes_s01_answers.main.body.getD i (.Pass ⟨0, 0, 0, 0⟩)
theorem xor_add : ∀ (n a b : Nat), a < 2 ^ n → (a ^^^ b) + 2 * (a &&& b) = a + b
  | 0, a, b, h => by
    have : a = 0 := by simpa using h
    subst this; simp
  | n + 1, a, b, h => by
    have ih := xor_add n (a / 2) (b / 2) (by rw [Nat.pow_succ] at h; omega)
    have e1 : (a ^^^ b) / 2 = a / 2 ^^^ b / 2 := Nat.xor_div_two
    have e2 : (a &&& b) / 2 = a / 2 &&& b / 2 := Nat.and_div_two
    have h1 := Nat.testBit_xor a b 0
    have h2 := Nat.testBit_and a b 0
    simp only [Nat.testBit_zero] at h1 h2
    have m1 : (a ^^^ b) % 2 + 2 * ((a &&& b) % 2) = a % 2 + b % 2 := by
      have ca := Nat.mod_two_eq_zero_or_one a
      have cb := Nat.mod_two_eq_zero_or_one b
      have cx := Nat.mod_two_eq_zero_or_one (a ^^^ b)
      have cn := Nat.mod_two_eq_zero_or_one (a &&& b)
      rcases ca with ca | ca <;> rcases cb with cb | cb <;> rcases cx with cx | cx <;> rcases cn with cn | cn <;> simp [ca, cb, cx, cn] at h1 h2 ⊢
    omega
theorem xor_int (a b : UInt8) : Builtin.bitXor (a.toNat : Int) (b.toNat : Int) = ((a ^^^ b).toNat : Int) := by
  rw [UInt8.toNat_xor, bitXor_and, bitAnd_pp (by omega) (by omega)]
  have := xor_add 8 a.toNat b.toNat (by have := a.toNat_lt; omega)
  simp only [Int.toNat_natCast]
  omega
end Sn
end
section
set_option maxHeartbeats 2000000
namespace Sn
open PySem PySem.Spec PyProof.Rows L2
open Tld (Ok ok_iff)
section
variable {P : Program} {w : World} {K : PySem.W.Frag} {mg : Str → Option Value} {base : Heap} {C : Addr}
theorem sc_is_code : FnScope ["code"] ["code"] (defScope (top 2)) := ⟨rfl, rfl, rfl, by decide +kernel, rfl, by decide +kernel, by decide +kernel⟩
def sp_is_code (C : Addr) : L2.Sp := fun vs H Q _ => ∃ (x : V) (c : Sp.Code), vs = [x] ∧ IsCode C H x c ∧ Q (.bl c.ok) H
theorem ok_is_code {f : Addr} {fd : FuncData} (F : Fun K "is_code" "is_code" (top 2) f fd) (T : Cc K C) : FnOk P w K mg base CX0 1 f fd ["code"] (sp_is_code C) := by
  refine F.ok sc_is_code (fun vs H Q E h => ?_) (fun cdv A outer s H vs Q E hr h => ?_)
  · obtain ⟨x, c, rfl, _⟩ := h
    rfl
  · obtain ⟨x, c, rfl, ⟨p, dx, rfl, hp⟩, k⟩ := h
    have kF : ¬ Ok c → Q (.bl false) H := fun h => by
      have e : c.ok = false := by
        cases q : c.ok with
        | false => rfl
        | true => exact absurd ((ok_iff c).mp q) h
      rw [e] at k
      exact k
    have kT : Ok c → Q (.bl true) H := fun h => by
      rw [(ok_iff c).mpr h] at k
      exact k
    refine ⟨_, (pss_one (ps_ret (pe_and (pe_chain4 op_le op_le op_lt op_le pe_int (pe_fld (pv 0) rfl) (pe_fld (pv 0) rfl) (pe_fld (pv 0) rfl) pe_int) (pe_and (pe_cmpR op_le (pe_fld (pv 0) rfl) pe_int (nomark _)) (pe_one (pe_chain op_le op_le pe_int (pe_fld (pv 0) rfl) pe_int)))))), ?_⟩
    refine ⟨_, rfl, p, C, dx, _, _, rfl, hp, T.cl, T.nk, codeF_k c, _, _, rfl, rfl, _, rfl, ?_⟩
    refine ite2 (fun h1 => ?_) (fun h1 => ?_)
    rotate_left
    · exact ⟨_, rfl, kF fun o => h1 (decide_eq_true (by have := o.k1; omega))⟩
    refine ⟨_, rfl, p, C, dx, _, _, rfl, hp, T.cl, T.nd, codeF_d c, _, _, rfl, rfl, _, rfl, ?_⟩
    refine ite2 (fun h2 => ?_) (fun h2 => ?_)
    rotate_left
    · exact ⟨_, rfl, kF fun o => h2 (decide_eq_true (by have := o.kd; omega))⟩
    refine ⟨_, rfl, p, C, dx, _, _, rfl, hp, T.cl, T.nn, codeF_n c, _, _, rfl, rfl, _, rfl, ?_⟩
    refine ite2 (fun h3 => ?_) (fun h3 => ?_)
    rotate_left
    · exact ⟨_, rfl, kF fun o => h3 (decide_eq_true (by have := o.dn; omega))⟩
    refine ⟨_, _, rfl, rfl, _, rfl, ?_⟩
    refine ite2 (fun h4 => ?_) (fun h4 => ?_)
    rotate_left
    · exact kF fun o => h4 (decide_eq_true (by have := o.n9; omega))
    refine ⟨_, rfl, p, C, dx, _, _, rfl, hp, T.cl, T.nd, codeF_d c, _, _, rfl, rfl, _, rfl, ?_⟩
    refine ite2 (fun h5 => ?_) (fun h5 => ?_)
    rotate_left
    · exact kF fun o => h5 (decide_eq_true (by have := o.d6; omega))
    refine ⟨_, rfl, p, C, dx, _, _, rfl, hp, T.cl, T.nw, codeF_w c, _, _, rfl, rfl, _, rfl, ?_⟩
    refine ite2 (fun h6 => ?_) (fun h6 => ?_)
    rotate_left
    · exact kF fun o => h6 (decide_eq_true (by have := o.l1; omega))
    have h1 := of_decide_eq_true h1
    have h2 := of_decide_eq_true h2
    have h3 := of_decide_eq_true h3
    have h4 := of_decide_eq_true h4
    have h5 := of_decide_eq_true h5
    have h6 := of_decide_eq_true h6
    refine ⟨_, _, rfl, rfl, ?_⟩
    show Q (.bl (decide ((c.len : Int) ≤ 64))) H
    by_cases h7 : (c.len : Int) ≤ 64
    · rw [decide_eq_true h7]
      exact kT ⟨by omega, by omega, by omega, by omega, by omega, by omega, by omega⟩
    · rw [decide_eq_false h7]
      exact kF fun o => h7 (by have := o.l64; omega)
end
end Sn
end
section
set_option maxHeartbeats 2000000
namespace Sn
open PySem PySem.Spec PyProof.Rows L2
open Tld (Ok ok_iff)
section
variable {P : Program} {w : World} {K : PySem.W.Frag} {mg : Str → Option Value} {base : Heap} {C : Addr}
theorem above_int : ∀ (d : Nat), d < 7 → ∀ (i : Nat), i < 7 → i ≤ d → (i : Int) * (d : Int) - (i : Int) * ((i : Int) - 1) / 2 = (Tld.above d i : Int) := by decide
theorem sc_rows_above : FnScope ["code", "i"] ["code", "i"] (defScope (top 3)) := ⟨rfl, rfl, rfl, by decide +kernel, rfl, by decide +kernel, by decide +kernel⟩
def sp_rows_above (C : Addr) : L2.Sp := fun vs H Q _ => ∃ (x : V) (c : Sp.Code) (i : Nat), vs = [x, nv i] ∧ IsCode C H x c ∧ i ≤ c.d ∧ c.d ≤ 6 ∧ Q (nv (Tld.above c.d i)) H
theorem ok_rows_above {f : Addr} {fd : FuncData} (F : Fun K "rows_above" "rows_above" (top 3) f fd) (T : Cc K C) : FnOk P w K mg base CX0 1 f fd ["code", "i"] (sp_rows_above C) := by
  refine F.ok sc_rows_above (fun vs H Q E h => ?_) (fun cdv A outer s H vs Q E hr h => ?_)
  · obtain ⟨x, c, i, rfl, _⟩ := h
    rfl
  · obtain ⟨x, c, i, rfl, ⟨p, dx, rfl, hp⟩, h1, h2, k⟩ := h
    refine ⟨_, (pss_one (ps_ret (pe_op op_sub (pe_op op_mul (pv 1) (pe_fld (pv 0) rfl)) (pe_op op_fdiv (pe_op op_mul (pv 1) (pe_op op_sub (pv 1) pe_int)) pe_int)))), ?_⟩
    refine ⟨_, rfl, _, rfl, p, C, dx, _, _, rfl, hp, T.cl, T.nd, codeF_d c, _, _, rfl, rfl, .inl ⟨by omega, by omega⟩, _, rfl, _, rfl, _, _, rfl, rfl, _, _, rfl, rfl, .inl ⟨by omega, by omega⟩, _, _, rfl, rfl, ⟨by decide, by decide⟩, _, _, rfl, rfl, ?_⟩
    exact qv (Q := Q) (congrArg V.int (above_int c.d (by omega) i (by omega) h1)) k
theorem sc_document_rows : FnScope ["code"] ["code"] (defScope (top 4)) := ⟨rfl, rfl, rfl, by decide +kernel, rfl, by decide +kernel, by decide +kernel⟩
def sp_document_rows (C : Addr) : L2.Sp := fun vs H Q _ => ∃ (x : V) (c : Sp.Code), vs = [x] ∧ IsCode C H x c ∧ Ok c ∧ Q (nv c.holds) H
theorem ok_document_rows {f : Addr} {fd : FuncData} (F : Fun K "document_rows" "document_rows" (top 4) f fd) (T : Cc K C) (g_rows_above : Gd P w K mg base 1 "rows_above" ["code", "i"] (sp_rows_above C)) :
    FnOk P w K mg base CX0 2 f fd ["code"] (sp_document_rows C) := by
  refine F.ok sc_document_rows (fun vs H Q E h => ?_) (fun cdv A outer s H vs Q E hr h => ?_)
  · obtain ⟨x, c, rfl, _⟩ := h
    rfl
  · obtain ⟨x, c, rfl, ⟨p, dx, rfl, hp⟩, o, k⟩ := h
    refine ⟨_, (pss_one (ps_ret (pe_g g_rows_above (hr.mono (by decide)) rfl (pa_cons (pv 0) (pa_cons (pe_fld (pv 0) rfl) pa_nil))))), ?_⟩
    refine ⟨_, rfl, _, rfl, p, C, dx, _, _, rfl, hp, T.cl, T.nk, codeF_k c, ?_⟩
    refine ⟨_, c, c.k, rfl, ⟨p, dx, rfl, hp⟩, o.kd, o.d6, ?_⟩
    rw [← Tld.holds_eq o.kd]
    exact k
theorem sc_document_bytes : FnScope ["code"] ["code"] (defScope (top 5)) := ⟨rfl, rfl, rfl, by decide +kernel, rfl, by decide +kernel, by decide +kernel⟩
def sp_document_bytes (C : Addr) : L2.Sp := fun vs H Q _ => ∃ (x : V) (c : Sp.Code), vs = [x] ∧ IsCode C H x c ∧ Ok c ∧ Q (nv (c.holds * c.len)) H
theorem ok_document_bytes {f : Addr} {fd : FuncData} (F : Fun K "document_bytes" "document_bytes" (top 5) f fd) (T : Cc K C) (g_document_rows : Gd P w K mg base 2 "document_rows" ["code"] (sp_document_rows C)) :
    FnOk P w K mg base CX0 3 f fd ["code"] (sp_document_bytes C) := by
  refine F.ok sc_document_bytes (fun vs H Q E h => ?_) (fun cdv A outer s H vs Q E hr h => ?_)
  · obtain ⟨x, c, rfl, _⟩ := h
    rfl
  · obtain ⟨x, c, rfl, ⟨p, dx, rfl, hp⟩, o, k⟩ := h
    refine ⟨_, (pss_one (ps_ret (pe_op op_mul (pe_g g_document_rows (hr.mono (by decide)) rfl (pa_cons (pv 0) pa_nil)) (pe_fld (pv 0) rfl)))), ?_⟩
    refine ⟨_, rfl, _, c, rfl, ⟨p, dx, rfl, hp⟩, o, _, rfl, p, C, dx, _, _, rfl, hp, T.cl, T.nw, codeF_w c, _, _, rfl, rfl, .inr ⟨by have := o.l64; omega, by have := o.l64; omega⟩, ?_⟩
    have e : (c.holds : Int) * (c.len : Int) = ((c.holds * c.len : Nat) : Int) := by rw [Int.natCast_mul]
    exact qv (Q := Q) (congrArg V.int e) k
theorem sc_node_bytes : FnScope ["code"] ["code"] (defScope (top 6)) := ⟨rfl, rfl, rfl, by decide +kernel, rfl, by decide +kernel, by decide +kernel⟩
def sp_node_bytes (C : Addr) : L2.Sp := fun vs H Q _ => ∃ (x : V) (c : Sp.Code), vs = [x] ∧ IsCode C H x c ∧ Ok c ∧ Q (nv (c.d * c.len)) H
theorem ok_node_bytes {f : Addr} {fd : FuncData} (F : Fun K "node_bytes" "node_bytes" (top 6) f fd) (T : Cc K C) :
    FnOk P w K mg base CX0 1 f fd ["code"] (sp_node_bytes C) := by
  refine F.ok sc_node_bytes (fun vs H Q E h => ?_) (fun cdv A outer s H vs Q E hr h => ?_)
  · obtain ⟨x, c, rfl, _⟩ := h
    rfl
  · obtain ⟨x, c, rfl, ⟨p, dx, rfl, hp⟩, o, k⟩ := h
    refine ⟨_, (pss_one (ps_ret (pe_op op_mul (pe_fld (pv 0) rfl) (pe_fld (pv 0) rfl)))), ?_⟩
    refine ⟨_, rfl, p, C, dx, _, _, rfl, hp, T.cl, T.nd, codeF_d c, _, rfl, p, C, dx, _, _, rfl, hp, T.cl, T.nw, codeF_w c, _, _, rfl, rfl, .inr ⟨by have := o.l64; omega, by have := o.l64; omega⟩, ?_⟩
    have e : (c.d : Int) * (c.len : Int) = ((c.d * c.len : Nat) : Int) := by rw [Int.natCast_mul]
    exact qv (Q := Q) (congrArg V.int e) k
theorem place_int {n : Nat} (h : n < 255) : (n : Int) + 1 = ((Sp.place n).toNat : Int) := by
  unfold Sp.place
  rw [UInt8.toNat_ofNat']
  omega
theorem sc_place_of : FnScope ["node"] ["node"] (defScope (top 7)) := ⟨rfl, rfl, rfl, by decide +kernel, rfl, by decide +kernel, by decide +kernel⟩
def sp_place_of : L2.Sp := fun vs H Q _ => ∃ (n : Nat), vs = [nv n] ∧ n < 255 ∧ Q (bv (Sp.place n)) H
theorem ok_place_of {f : Addr} {fd : FuncData} (F : Fun K "place_of" "place_of" (top 7) f fd) : FnOk P w K mg base CX0 1 f fd ["node"] sp_place_of := by
  refine F.ok sc_place_of (fun vs H Q E h => ?_) (fun cdv A outer s H vs Q E hr h => ?_)
  · obtain ⟨n, rfl, _⟩ := h
    rfl
  · obtain ⟨n, rfl, h, k⟩ := h
    refine ⟨_, (pss_one (ps_ret (pe_op op_add (pv 0) pe_int))), ?_⟩
    refine ⟨_, rfl, _, _, rfl, rfl, ?_⟩
    exact qv (Q := Q) (congrArg V.int (place_int h)) k
end
end Sn
end
section
set_option maxHeartbeats 2000000
namespace Sn
open PySem PySem.Spec PyProof.Rows L2
open Tld (Ok ok_iff)
section
variable {P : Program} {w : World} {K : PySem.W.Frag} {mg : Str → Option Value} {base : Heap} {C : Addr}
theorem rgc_up {L m : Nat} (hL : 1 ≤ L) (hL2 : L ≤ 65536) (hm : m * L ≤ 65536) : RgC 0 ((m * L : Nat) : Int) (L : Int) m := by
  have e : Builtin.Range.rangeSize 0 ((m * L : Nat) : Int) (L : Int) = m := by
    unfold Builtin.Range.rangeSize
    rw [if_pos (by omega)]
    by_cases h0 : m = 0
    · subst h0; simp
    · have h1 : 0 < m * L := Nat.mul_pos (by omega) (by omega)
      rw [if_pos (by omega)]
      have e2 : ((m * L : Nat) : Int) - 0 - 1 = ((m * L - 1 : Nat) : Int) := by omega
      rw [e2, ← Int.natCast_ediv]
      have e3 : (m * L - 1) / L = m - 1 := by
        have : m * L - 1 = (m - 1) * L + (L - 1) := by
          have : m * L = (m - 1) * L + L := by
            conv => lhs; rw [show m = (m - 1) + 1 by omega, Nat.add_mul, Nat.one_mul]
          omega
        rw [this, Nat.mul_comm, Nat.mul_add_div (by omega), Nat.div_eq_of_lt (by omega)]
        omega
      rw [e3]
      omega
  refine ⟨by omega, by omega, ?_, e⟩
  unfold Builtin.Range.small
  rw [e]
  have hm2 : m ≤ m * L := Nat.le_mul_of_pos_right m (by omega)
  rw [if_pos (show (L : Int) > 0 by omega)]
  simp only [Builtin.Range.rangeFitsLong, Bool.and_eq_true, Bool.or_eq_true, decide_eq_true_eq, beq_iff_eq]
  omega
theorem sc_cut : FnScope ["row", "length", "start"] ["row", "length"] (defScope (top 8)) := ⟨rfl, rfl, rfl, by decide +kernel, rfl, by decide +kernel, by decide +kernel⟩
def sp_cut : L2.Sp := fun vs H Q _ => ∃ (x : V) (b : Sp.Bytes) (L m : Nat), vs = [x, nv L] ∧ IsB H x b ∧ 1 ≤ L ∧ L ≤ 65536 ∧ b.length = m * L ∧ b.length ≤ 65536 ∧ RR H Q (Sp.rowsOf L m b)
theorem ok_cut {f : Addr} {fd : FuncData} (F : Fun K "cut" "cut" (top 8) f fd) (B : Bi mg) : FnOk P w K mg base CX0 1 f fd ["row", "length"] sp_cut := by
  refine F.ok sc_cut (fun vs H Q E h => ?_) (fun cdv A outer s H vs Q E hr h => ?_)
  · obtain ⟨x, b, L, m, rfl, _⟩ := h
    rfl
  · obtain ⟨x, b, L, m, rfl, ⟨p, rfl, hp⟩, hL, hL2, hm, hb, k⟩ := h
    refine ⟨_, (pss_one (ps_ret (pe_lc (g := (gName 2)) (te := (tSl (rSlL K) (tVar 0) (tPart (tVar 2)) (tPart (tOp (rI0 fun i j => .int (i + j)) (tVar 2) (tVar 1))))) (own := [("start", 2)]) rfl sc_cut.nd (pi_range3 rfl B.range (pa_cons pe_int (pa_cons (pe_callB call_len_seq rfl B.len PySem.boot_len (pa_cons (pv 0) pa_nil)) (pa_cons (pv 1) pa_nil)))) (blkOk_by (by rfl)) (fun s H C cl fp => (pg_name (i := 2) sc_cut.nd rfl (Or.inl rfl) (Or.inr rfl))) (fun s H C cl fp => pts_nil) (fun s H C cl fp => (pe_slice sl_list (pv 0) (po_some (pv 2)) (po_some (pe_op op_add (pv 2) (pv 1)))))))), ?_⟩
    refine ⟨_, rfl, p, _, rfl, .inl (SqL.of hp), _, rfl, _, _, _, m, rfl, ?_, fun D hD => ?_⟩
    · rw [bvs_len, hm]
      exact rgc_up hL hL2 (by omega)
    refine lc_rangeC (Acc H D fun j y G => ∃ q, y = .ref q ∧ H q = none ∧ G q = some (.lst (bvs (Sp.part b (L * j) L)))) (Acc.start hD) (fun j H1 hj z => ?_) (fun H1 z => ?_)
    · refine ⟨rfl, _, rfl, _, rfl, _, rfl, _, rfl, _, rfl, _, _, rfl, rfl, _, rfl, p, _, rfl, SqL.of (z.same _ _ hp), fun q hq => ?_⟩
      have e : cutV (bvs b) (some (0 + ((j : Nat) : Int) * (L : Int))) (some (0 + ((j : Nat) : Int) * (L : Int) + (L : Int))) = bvs (Sp.part b (L * j) L) := by
        have e1 : (0 + ((j : Nat) : Int) * (L : Int)) = ((L * j : Nat) : Int) := by rw [Int.natCast_mul, Int.mul_comm]; omega
        have e2 : (0 + ((j : Nat) : Int) * (L : Int) + (L : Int)) = ((L * j + L : Nat) : Int) := by rw [e1]; omega
        rw [e2, e1, cut_both _ (by omega), bvs_drop, bvs_take, Nat.add_sub_cancel_left]
        rfl
      obtain ⟨ys, g1, g2, g3⟩ := z.ex
      have ne : q ≠ D := fun q2 => by rw [q2, g1] at hq; cases hq
      have hq0 : H q = none := z.same.free hq
      exact Acc.push (fun _ _ _ _ s ⟨q, e1, e2, e3⟩ => ⟨q, e1, e2, s _ _ e3⟩) hD z (.new hq) ⟨q, rfl, hq0, hid_at (upd_same.trans (congrArg (fun z => some (HO.lst z)) e)) ne⟩ (by have : m ≤ m * L := Nat.le_mul_of_pos_right m (by omega); omega)
    · obtain ⟨ys, g1, g2, g3⟩ := z.ex
      refine k H1 (.ref D) z.same ⟨D, ys, rfl, nw_at hD g1, by rw [g2]; unfold Sp.rowsOf; simp, fun i v r e1 e2 => ?_⟩
      obtain ⟨q, rfl, hq0, hq⟩ := g3 i v e1
      refine ⟨q, rfl, nw_at hq0 ?_⟩
      rw [hid_same _ _ _ _ hq]
      unfold Sp.rowsOf at e2
      rw [List.getElem?_map] at e2
      cases e3 : (List.range m)[i]? with
      | none => rw [e3] at e2; cases e2
      | some t =>
        rw [e3] at e2
        cases e2
        have : t = i := by
          obtain ⟨h1, h2⟩ := List.getElem?_eq_some_iff.mp e3
          rw [← h2, List.getElem_range]
        rw [this]
theorem any_all (l : List Nat) (n : Nat) : (List.range l.length).any (id ∘ fun j => decide (n ≤ l.getD j 0)) = !l.all fun i => decide (i < n) := by
  have e : (l.all fun i => decide (i < n)) = (List.range l.length).all fun j => decide (l.getD j 0 < n) := by
    conv => lhs; rw [Rw.list_range 0 l]
    rw [List.all_map]
    rfl
  rw [e, List.not_all_eq_any_not]
  congr 1
  funext j
  show decide (n ≤ l.getD j 0) = !decide (l.getD j 0 < n)
  rw [← decide_not, decide_eq_decide]
  omega
theorem sc_is_missing : FnScope ["code", "nodes", "node"] ["code", "nodes"] (defScope (top 15)) := ⟨rfl, rfl, rfl, by decide +kernel, rfl, by decide +kernel, by decide +kernel⟩
def sp_is_missing (C : Addr) : L2.Sp := fun vs H Q _ => ∃ (x y : V) (c : Sp.Code) (l : List Nat), vs = [x, y] ∧ IsCode C H x c ∧ IsN H y l ∧ l.length ≤ 65536 ∧ ∀ H', Same H H' → Q (.bl (!Sp.looked c l)) H'
theorem ok_is_missing {f : Addr} {fd : FuncData} (F : Fun K "is_missing" "is_missing" (top 15) f fd) (B : Bi mg) (T : Cc K C) (g_is_code : Gd P w K mg base 1 "is_code" ["code"] (sp_is_code C)) :
    FnOk P w K mg base CX0 2 f fd ["code", "nodes"] (sp_is_missing C) := by
  refine F.ok sc_is_missing (fun vs H Q E h => ?_) (fun cdv A outer s H vs Q E hr h => ?_)
  · obtain ⟨x, y, c, l, rfl, _⟩ := h
    rfl
  · obtain ⟨x, y, c, l, rfl, ⟨p, dx, rfl, hp⟩, ⟨q, rfl, hq⟩, hl, k⟩ := h
    refine ⟨_, (pss_one (ps_ret (pe_or (pe_not (pe_g g_is_code (hr.mono (by decide)) rfl (pa_cons (pv 0) pa_nil))) (pe_one (pe_callB (cr_any rfl) rfl B.any boot_any (pa_cons (pe_lc (g := (gName 2)) (te := (tOp (rI0 fun i j => .bl (decide (j ≤ i))) (tVar 2) (tFld K (tVar 0) "n"))) (own := [("node", 2)]) rfl sc_is_missing.nd (pi_list (pv 1)) (blkOk_by (by rfl)) (fun s H C cl fp => (pg_name (i := 2) sc_is_missing.nd rfl (Or.inl rfl) (Or.inr rfl))) (fun s H C cl fp => pts_nil) (fun s H C cl fp => (pe_cmpR op_ge (pv 2) (pe_fld (pv 0) rfl) (nomark _)))) pa_nil)))))), ?_⟩
    refine ⟨_, rfl, _, c, rfl, ⟨p, dx, rfl, hp⟩, _, rfl, _, rfl, ?_⟩
    refine ite2 (fun h => ?_) (fun h => ?_)
    · have e : c.ok = false := by simpa using h
      exact qv (Q := Q) (congrArg V.bl (by unfold Sp.looked; rw [e]; rfl)) (k H (.refl H))
    · have e : c.ok = true := by simpa using h
      refine ⟨_, rfl, q, rfl, ⟨_, SqL.of hq⟩, fun D hD => ?_⟩
      refine lc_list (Acc H D fun j y G => y = .bl (decide (c.n ≤ l.getD j 0))) (Acc.start hD) (fun i H1 _ z => SqL.of (z.same _ _ hq)) (fun i x H1 e1 z => ?_) (fun H1 z => ?_)
      · obtain ⟨h1, rfl⟩ := nvs_get e1
        refine ⟨rfl, _, rfl, _, rfl, p, C, dx, _, _, rfl, z.same _ _ hp, T.cl, T.nn, codeF_n c, _, _, rfl, rfl, ?_⟩
        refine Acc.push (fun _ _ _ _ _ h => h) hD z (.refl _) (congrArg V.bl ?_) (by omega)
        rw [decide_eq_decide]
        omega
      · obtain ⟨ys, g1, g2, g3⟩ := z.ex
        have e2 := vals_of g2 g3
        rw [nvs_len] at e2
        refine ⟨D, (List.range l.length).map fun j => decide (c.n ≤ l.getD j 0), rfl, SqL.of (by rw [g1, e2, List.map_map]; rfl), ?_⟩
        refine qv (Q := Q) (congrArg V.bl ?_) (k H1 z.same)
        unfold Sp.looked
        rw [e, Bool.true_and, List.any_map]
        exact any_all l c.n
theorem rising_range : ∀ l : List Nat, Sp.rising l = (List.range (l.length - 1)).all fun j => decide (l.getD j 0 < l.getD (j + 1) 0)
  | [] => rfl
  | [_] => rfl
  | a :: b :: l => by
    have ih := rising_range (b :: l)
    show (decide (a < b) && Sp.rising (b :: l)) = _
    rw [ih]
    simp only [List.length_cons, Nat.add_sub_cancel]
    rw [List.range_succ_eq_map, List.all_cons, List.all_map]
    rfl
theorem sc_is_rising : FnScope ["nodes", "at"] ["nodes"] (defScope (top 16)) := ⟨rfl, rfl, rfl, by decide +kernel, rfl, by decide +kernel, by decide +kernel⟩
def sp_is_rising : L2.Sp := fun vs H Q _ => ∃ (y : V) (l : List Nat), vs = [y] ∧ IsN H y l ∧ l.length ≤ 65536 ∧ ∀ H', Same H H' → Q (.bl (Sp.rising l)) H'
theorem ok_is_rising {f : Addr} {fd : FuncData} (F : Fun K "is_rising" "is_rising" (top 16) f fd) (B : Bi mg) : FnOk P w K mg base CX0 1 f fd ["nodes"] sp_is_rising := by
  refine F.ok sc_is_rising (fun vs H Q E h => ?_) (fun cdv A outer s H vs Q E hr h => ?_)
  · obtain ⟨y, l, rfl, _⟩ := h
    rfl
  · obtain ⟨y, l, rfl, ⟨q, rfl, hq⟩, hl, k⟩ := h
    refine ⟨_, (pss_one (ps_ret (pe_callB (cr_all rfl) rfl B.all boot_all (pa_cons (pe_lc (g := (gName 1)) (te := (tOp (rI0 fun i j => .bl (decide (i < j))) (tOp (rIxL K) (tVar 0) (tOp (rI0 fun i j => .int (i - j)) (tVar 1) (tC (.int 1)))) (tOp (rIxL K) (tVar 0) (tVar 1)))) (own := [("at", 1)]) rfl sc_is_rising.nd (pi_range2 rfl B.range (pa_cons pe_int (pa_cons (pe_callB call_len_seq rfl B.len PySem.boot_len (pa_cons (pv 0) pa_nil)) pa_nil))) (blkOk_by (by rfl)) (fun s H C cl fp => (pg_name (i := 1) sc_is_rising.nd rfl (Or.inl rfl) (Or.inr rfl))) (fun s H C cl fp => pts_nil) (fun s H C cl fp => (pe_cmpR op_lt (pe_ix ix_list (pv 0) (pe_op op_sub (pv 1) pe_int) (fun _ _ => rfl)) (pe_ix ix_list (pv 0) (pv 1) (fun _ _ => rfl)) (nomark _)))) pa_nil)))), ?_⟩
    refine ⟨_, rfl, q, _, rfl, .inl (SqL.of hq), _, _, rfl, ⟨by omega, by omega, by omega, by rw [nvs_len]; omega⟩, fun D hD => ?_⟩
    have en : ((((nvs l).length : Nat) : Int) - 1).toNat = l.length - 1 := by rw [nvs_len]; omega
    rw [en]
    refine lc_range (Acc H D fun j y G => y = .bl (decide (l.getD j 0 < l.getD (j + 1) 0))) (Acc.start hD) (fun i H1 hi z => ?_) (fun H1 z => ?_)
    · refine ⟨rfl, _, rfl, _, rfl, _, _, rfl, rfl, q, _, _, nv (l.getD i 0), rfl, rfl, SqL.of (z.same _ _ hq), at_of (by omega) (nvs_at (by omega)), _, rfl, _, rfl, q, _, _, nv (l.getD (i + 1) 0), rfl, rfl, SqL.of (z.same _ _ hq), at_of (by omega) (nvs_at (by omega)), _, _, rfl, rfl, ?_⟩
      refine Acc.push (fun _ _ _ _ _ h => h) hD z (.refl _) (congrArg V.bl ?_) (by omega)
      rw [decide_eq_decide]
      omega
    · obtain ⟨ys, g1, g2, g3⟩ := z.ex
      have e2 := vals_of g2 g3
      refine ⟨D, (List.range (l.length - 1)).map fun j => decide (l.getD j 0 < l.getD (j + 1) 0), rfl, SqL.of (by rw [g1, e2, List.map_map]; rfl), ?_⟩
      refine qv (Q := Q) (congrArg V.bl ?_) (k H1 z.same)
      rw [rising_range, List.all_map]
      rfl
theorem sc_is_unfit : FnScope ["nodes", "fewest", "row", "bytes_each"] ["nodes", "fewest", "row", "bytes_each"] (defScope (top 17)) := ⟨rfl, rfl, rfl, by decide +kernel, rfl, by decide +kernel, by decide +kernel⟩
def sp_is_unfit : L2.Sp := fun vs H Q _ => ∃ (y z : V) (l : List Nat) (few each : Nat) (b : Sp.Bytes), vs = [y, nv few, z, nv each] ∧ IsN H y l ∧ IsB H z b ∧ l.length ≤ 65536 ∧
  ∀ H', Same H H' → Q (.bl (decide (Sp.rising l = false ∨ l.length < few ∨ b.length ≠ l.length * each))) H'
theorem ok_is_unfit {f : Addr} {fd : FuncData} (F : Fun K "is_unfit" "is_unfit" (top 17) f fd) (B : Bi mg) (g_is_rising : Gd P w K mg base 1 "is_rising" ["nodes"] sp_is_rising) :
    FnOk P w K mg base CX0 2 f fd ["nodes", "fewest", "row", "bytes_each"] sp_is_unfit := by
  refine F.ok sc_is_unfit (fun vs H Q E h => ?_) (fun cdv A outer s H vs Q E hr h => ?_)
  · obtain ⟨y, z, l, few, each, b, rfl, _⟩ := h
    rfl
  · obtain ⟨y, z, l, few, each, b, rfl, ⟨p, rfl, hp⟩, ⟨q, rfl, hq⟩, hl, k⟩ := h
    refine ⟨_, (pss_one (ps_ret (pe_or (pe_not (pe_g g_is_rising (hr.mono (by decide)) rfl (pa_cons (pv 0) pa_nil))) (pe_or (pe_cmpR op_lt (pe_callB call_len_seq rfl B.len PySem.boot_len (pa_cons (pv 0) pa_nil)) (pv 1) (nomark _)) (pe_one (pe_cmpR op_ne (pe_callB call_len_seq rfl B.len PySem.boot_len (pa_cons (pv 2) pa_nil)) (pe_op op_mul (pe_callB call_len_seq rfl B.len PySem.boot_len (pa_cons (pv 0) pa_nil)) (pv 3)) (nomark _))))))), ?_⟩
    refine ⟨_, rfl, _, l, rfl, ⟨p, rfl, hp⟩, hl, fun H1 s1 => ?_⟩
    refine ⟨_, rfl, _, rfl, ?_⟩
    refine ite2 (fun h => ?_) (fun h => ?_)
    · have e : Sp.rising l = false := by simpa using h
      exact qv (Q := Q) (congrArg V.bl (decide_eq_true (.inl e)).symm) (k H1 s1)
    have e : Sp.rising l = true := by simpa using h
    refine ⟨_, rfl, p, _, rfl, .inl (SqL.of (s1 _ _ hp)), _, rfl, _, _, rfl, rfl, _, rfl, ?_⟩
    rw [nvs_len]
    refine ite2 (fun h2 => ?_) (fun h2 => ?_)
    · have h2 := of_decide_eq_true h2
      exact qv (Q := Q) (congrArg V.bl (decide_eq_true (.inr (.inl (by omega)))).symm) (k H1 s1)
    have h2 : ¬ ((l.length : Int) < (few : Int)) := fun z => h2 (decide_eq_true z)
    refine ⟨_, rfl, q, _, rfl, .inl (SqL.of (s1 _ _ hq)), _, rfl, p, _, rfl, .inl (SqL.of (s1 _ _ hp)), _, rfl, _, _, rfl, rfl, .inl ⟨by omega, by rw [nvs_len]; omega⟩, rfl, ?_⟩
    refine qv (Q := Q) (congrArg V.bl ?_) (k H1 s1)
    rw [nvs_len, bvs_len]
    have e3 : ((l.length : Int) * (each : Int)) = ((l.length * each : Nat) : Int) := by rw [Int.natCast_mul]
    show (!decide (V.int (b.length : Int) = V.int ((l.length : Int) * (each : Int)))) = _
    rw [e3]
    by_cases h3 : b.length = l.length * each
    · have : ¬ (Sp.rising l = false ∨ l.length < few ∨ b.length ≠ l.length * each) := by
        rintro (z | z | z)
        · rw [e] at z; cases z
        · omega
        · exact z h3
      rw [decide_eq_false this, h3]
      simp
    · rw [decide_eq_true (p := (_ ∨ _ ∨ _)) (.inr (.inr h3))]
      have : ¬ (V.int (b.length : Int) = V.int ((l.length * each : Nat) : Int)) := fun z => h3 (by have := V.int.inj z; omega)
      rw [decide_eq_false this]
      rfl
end
end Sn
end
section
namespace Sn
open Fld
def POW : List Nat := [1, 3, 5, 15, 17, 51, 85, 255, 26, 46, 114, 150, 161, 248, 19, 53, 95, 225, 56, 72, 216, 115, 149, 164, 247, 2, 6, 10, 30, 34, 102, 170, 229, 52, 92, 228, 55, 89, 235, 38, 106, 190, 217, 112, 144, 171, 230, 49, 83, 245, 4, 12, 20, 60, 68, 204, 79, 209, 104, 184, 211, 110, 178, 205, 76, 212, 103, 169, 224, 59, 77, 215, 98, 166, 241, 8, 24, 40, 120, 136, 131, 158, 185, 208, 107, 189, 220, 127, 129, 152, 179, 206, 73, 219, 118, 154, 181, 196, 87, 249, 16, 48, 80, 240, 11, 29, 39, 105, 187, 214, 97, 163, 254, 25, 43, 125, 135, 146, 173, 236, 47, 113, 147, 174, 233, 32, 96, 160, 251, 22, 58, 78, 210, 109, 183, 194, 93, 231, 50, 86, 250, 21, 63, 65, 195, 94, 226, 61, 71, 201, 64, 192, 91, 237, 44, 116, 156, 191, 218, 117, 159, 186, 213, 100, 172, 239, 42, 126, 130, 157, 188, 223, 122, 142, 137, 128, 155, 182, 193, 88, 232, 35, 101, 175, 234, 37, 111, 177, 200, 67, 197, 84, 252, 31, 33, 99, 165, 244, 7, 9, 27, 45, 119, 153, 176, 203, 70, 202, 69, 207, 74, 222, 121, 139, 134, 145, 168, 227, 62, 66, 198, 81, 243, 14, 18, 54, 90, 238, 41, 123, 141, 140, 143, 138, 133, 148, 167, 242, 13, 23, 57, 75, 221, 124, 132, 151, 162, 253, 28, 36, 108, 180, 199, 82, 246]
def EXP : List Nat := [0, 0, 25, 1, 50, 2, 26, 198, 75, 199, 27, 104, 51, 238, 223, 3, 100, 4, 224, 14, 52, 141, 129, 239, 76, 113, 8, 200, 248, 105, 28, 193, 125, 194, 29, 181, 249, 185, 39, 106, 77, 228, 166, 114, 154, 201, 9, 120, 101, 47, 138, 5, 33, 15, 225, 36, 18, 240, 130, 69, 53, 147, 218, 142, 150, 143, 219, 189, 54, 208, 206, 148, 19, 92, 210, 241, 64, 70, 131, 56, 102, 221, 253, 48, 191, 6, 139, 98, 179, 37, 226, 152, 34, 136, 145, 16, 126, 110, 72, 195, 163, 182, 30, 66, 58, 107, 40, 84, 250, 133, 61, 186, 43, 121, 10, 21, 155, 159, 94, 202, 78, 212, 172, 229, 243, 115, 167, 87, 175, 88, 168, 80, 244, 234, 214, 116, 79, 174, 233, 213, 231, 230, 173, 232, 44, 215, 117, 122, 235, 22, 11, 245, 89, 203, 95, 176, 156, 169, 81, 160, 127, 12, 246, 111, 23, 196, 73, 236, 216, 67, 31, 45, 164, 118, 123, 183, 204, 187, 62, 90, 251, 96, 177, 134, 59, 82, 161, 108, 170, 85, 41, 157, 151, 178, 135, 144, 97, 190, 220, 252, 188, 149, 207, 205, 55, 63, 91, 209, 83, 57, 132, 60, 65, 162, 109, 71, 20, 42, 158, 93, 86, 242, 211, 171, 68, 17, 146, 217, 35, 32, 46, 137, 180, 124, 184, 38, 119, 153, 227, 165, 103, 74, 237, 222, 197, 49, 254, 24, 13, 99, 140, 128, 192, 247, 112, 7]
def p3 : Nat → UInt8
  | 0 => 1
  | n + 1 => Sp.mul8 3 (p3 n)
theorem p3_add (i : Nat) : ∀ j, p3 (j + i) = Sp.mul8 (p3 j) (p3 i)
  | 0 => by rw [Nat.zero_add]; exact (one_mul _).symm
  | j + 1 => by
    rw [show j + 1 + i = (j + i) + 1 by omega]
    show Sp.mul8 3 (p3 (j + i)) = Sp.mul8 (Sp.mul8 3 (p3 j)) (p3 i)
    rw [p3_add i j, mul_assoc]
theorem pow_step : ∀ i, i < 254 → UInt8.ofNat (POW.getD (i + 1) 0) = Sp.mul8 3 (UInt8.ofNat (POW.getD i 0)) := by decide +kernel
theorem pow_last : Sp.mul8 3 (UInt8.ofNat (POW.getD 254 0)) = 1 := by decide +kernel
theorem pow_eq : ∀ i, i < 255 → UInt8.ofNat (POW.getD i 0) = p3 i
  | 0, _ => by decide
  | i + 1, h => by rw [pow_step i (by omega), pow_eq i (by omega)]; rfl
theorem p3_255 : p3 255 = 1 := by
  show Sp.mul8 3 (p3 254) = 1
  rw [← pow_eq 254 (by decide)]
  exact pow_last
theorem p3_mod (n : Nat) : p3 (n % 255) = p3 n := by
  induction n using Nat.strongRecOn with
  | _ n ih =>
    by_cases h : n < 255
    · rw [Nat.mod_eq_of_lt h]
    · have := ih (n - 255) (by omega)
      have e : n = 255 + (n - 255) := by omega
      rw [e, p3_add, p3_255, one_mul, ← this]
      congr 1
      omega
theorem pow_lt : ∀ i, i < 255 → POW.getD i 0 < 256 := by decide +kernel
theorem exp_lt : ∀ i, i < 256 → EXP.getD i 0 < 255 := by decide +kernel
theorem exp_pow : ∀ n, n < 256 → n ≠ 0 → POW.getD (EXP.getD n 0) 0 = n := by decide +kernel
theorem inv_pow : ∀ n, n < 256 → n ≠ 0 → POW.getD ((255 - EXP.getD n 0) % 255) 0 = (Sp.inv8 (UInt8.ofNat n)).toNat := by decide +kernel
theorem p3_exp {a : UInt8} (h : a ≠ 0) : p3 (EXP.getD a.toNat 0) = a := by
  have hn : a.toNat ≠ 0 := fun e => h (UInt8.toNat_inj.mp (by rw [e]; rfl))
  rw [← pow_eq _ (exp_lt _ a.toNat_lt), exp_pow _ a.toNat_lt hn, UInt8.ofNat_toNat]
theorem mul_tab {a b : UInt8} (ha : a ≠ 0) (hb : b ≠ 0) : POW.getD ((EXP.getD a.toNat 0 + EXP.getD b.toNat 0) % 255) 0 = (Sp.mul8 a b).toNat := by
  have h1 : (EXP.getD a.toNat 0 + EXP.getD b.toNat 0) % 255 < 255 := Nat.mod_lt _ (by decide)
  have e := pow_eq _ h1
  rw [p3_mod, p3_add, p3_exp ha, p3_exp hb] at e
  rw [← e, UInt8.toNat_ofNat', Nat.mod_eq_of_lt (pow_lt _ h1)]
theorem inv_tab {a : UInt8} (ha : a ≠ 0) : POW.getD ((255 - EXP.getD a.toNat 0) % 255) 0 = (Sp.inv8 a).toNat := by
  have hn : a.toNat ≠ 0 := fun e => ha (UInt8.toNat_inj.mp (by rw [e]; rfl))
  have := inv_pow _ a.toNat_lt hn
  rwa [UInt8.ofNat_toNat] at this
theorem POW_len : POW.length = 255 := by decide +kernel
theorem EXP_len : EXP.length = 256 := by decide +kernel
end Sn
end
section
set_option maxHeartbeats 2000000
namespace Sn
open PySem PySem.Spec PyProof.Rows L2
structure Tb (K : PySem.W.Frag) (mg : Str → Option Value) (aP aE : Addr) : Prop where
  mP : mg "POWERS" = some (.ref aP)
  mE : mg "EXPONENTS" = some (.ref aE)
  sP : ∀ H : Hp, SqT K H aP (nvs POW)
  sE : ∀ H : Hp, SqT K H aE (nvs EXP)
section
variable {P : Program} {w : World} {K : PySem.W.Frag} {mg : Str → Option Value} {base : Heap} {C a_POWERS a_EXPONENTS : Addr}
theorem sc_plus : FnScope ["row", "other", "byte", "beside"] ["row", "other"] (defScope (top 22)) := ⟨rfl, rfl, rfl, by decide +kernel, rfl, by decide +kernel, by decide +kernel⟩
def sp_plus : L2.Sp := fun vs H Q _ => ∃ (x y : V) (a b : Sp.Bytes), vs = [x, y] ∧ IsB H x a ∧ IsB H y b ∧ a.length ≤ 65536 ∧ RB H Q (Sp.xor a b)
theorem ok_plus {f : Addr} {fd : FuncData} (F : Fun K "plus" "plus" (top 22) f fd) (B : Bi mg) : FnOk P w K mg base CX0 1 f fd ["row", "other"] sp_plus := by
  refine F.ok sc_plus (fun vs H Q E h => ?_) (fun cdv A outer s H vs Q E hr h => ?_)
  · obtain ⟨x, y, a, b, rfl, _⟩ := h
    rfl
  · obtain ⟨x, y, a, b, rfl, ⟨p, rfl, hp⟩, ⟨q, rfl, hq⟩, hl, k⟩ := h
    refine ⟨_, (pss_one (ps_ret (pe_lc (g := (gTup K 2 (gCons (gName 2) (gCons (gName 3) gNil)))) (te := (tOp (rI0 fun i j => .int (Builtin.bitXor i j)) (tVar 2) (tVar 3))) (own := [("byte", 2), ("beside", 3)]) rfl sc_plus.nd (pi_zip rfl B.zip (pa_cons (pv 0) (pa_cons (pv 1) pa_nil))) (blkOk_by (by rfl)) (fun s H C cl fp => (pg_tup (n := 2) rfl (pgs_cons (pg_name (i := 2) sc_plus.nd rfl (Or.inl rfl) (Or.inr rfl)) (pgs_cons (pg_name (i := 3) sc_plus.nd rfl (Or.inl rfl) (Or.inr rfl)) pgs_nil)))) (fun s H C cl fp => pts_nil) (fun s H C cl fp => (pe_op op_xor (pv 2) (pv 3)))))), ?_⟩
    refine ⟨_, rfl, _, rfl, p, q, bvs a, bvs b, rfl, SqL.of hp, SqL.of hq, fun D hD => ?_⟩
    refine lc_zip (Acc H D fun j y _ => y = bv (a.getD j 0 ^^^ b.getD j 0)) (Acc.start hD) (fun i H1 z => ⟨SqL.of (z.same _ _ hp), SqL.of (z.same _ _ hq)⟩) (fun i x y H1 T e1 e2 z hT => ?_) (fun H1 z => ?_)
    · obtain ⟨h1, rfl⟩ := bvs_get e1
      obtain ⟨h2, rfl⟩ := bvs_get e2
      refine ⟨T, _, rfl, SqT.of upd_same, rfl, _, _, rfl, _, _, rfl, rfl, rfl, ?_⟩
      refine ⟨_, rfl, _, rfl, _, _, rfl, rfl, ?_⟩
      exact Acc.push (fun _ _ _ _ _ h => h) hD z (.new hT) (congrArg V.int (xor_int _ _)) (by omega)
    · obtain ⟨ys, g1, g2, g3⟩ := z.ex
      refine k H1 D z.same hD ?_
      rw [g1, vals_of g2 g3, xor_range, bvs_range, bvs_len, bvs_len]
theorem sc_inverse : FnScope ["byte"] ["byte"] (defScope (top 21)) := ⟨rfl, rfl, rfl, by decide +kernel, rfl, by decide +kernel, by decide +kernel⟩
def sp_inverse : L2.Sp := fun vs H Q _ => ∃ (a : UInt8), vs = [bv a] ∧ a ≠ 0 ∧ Q (bv (Sp.inv8 a)) H
theorem ok_inverse {f : Addr} {fd : FuncData} (F : Fun K "inverse" "inverse" (top 21) f fd) (t : Tb K mg a_POWERS a_EXPONENTS) : FnOk P w K mg base CX0 1 f fd ["byte"] sp_inverse := by
  refine F.ok sc_inverse (fun vs H Q E h => ?_) (fun cdv A outer s H vs Q E hr h => ?_)
  · obtain ⟨a, rfl, _⟩ := h
    rfl
  · obtain ⟨a, rfl, ha, k⟩ := h
    have m_POWERS := t.mP
    have m_EXPONENTS := t.mE
    have h1 := exp_lt _ a.toNat_lt
    refine ⟨_, (pss_one (ps_ret (pe_ix ix_tup (pe_gr rfl m_POWERS) (pe_op op_mod (pe_op op_sub pe_int (pe_ix ix_tup (pe_gr rfl m_EXPONENTS) (pv 0) (fun _ _ => rfl))) pe_int) (fun _ _ => rfl)))), ?_⟩
    refine ⟨_, rfl, a_EXPONENTS, _, _, nv (EXP.getD a.toNat 0), rfl, rfl, t.sE _, at_of rfl (nvs_at (by rw [EXP_len]; exact a.toNat_lt)), _, _, rfl, rfl, _, _, rfl, rfl, (by show (0 : Int) < 255; decide), a_POWERS, _, _, nv (POW.getD ((255 - EXP.getD a.toNat 0) % 255) 0), rfl, rfl, t.sP _, at_of ?_ (nvs_at (by rw [POW_len]; exact Nat.mod_lt _ (by decide))), ?_⟩
    · show ((255 : Int) - (EXP.getD a.toNat 0 : Int)) % 255 = _
      omega
    · exact qv (Q := Q) (congrArg V.int (congrArg _ (inv_tab ha))) k
theorem scale_range (f : UInt8) (b : Sp.Bytes) : Sp.scale f b = (List.range b.length).map fun j => Sp.mul8 f (b.getD j 0) := by
  unfold Sp.scale
  refine List.ext_getElem (by simp) fun i h1 h2 => ?_
  simp only [List.length_map, List.length_range] at h2
  simp [h2]
theorem rep_noughts (n : Nat) : (List.replicate n [V.int 0]).flatten = bvs (Sp.noughts n) := by
  unfold bvs Sp.noughts
  rw [List.map_replicate, show ([V.int 0] : List V) = List.replicate 1 (V.int 0) from rfl, List.flatten_replicate_replicate, Nat.mul_one]
  rfl
theorem sc_times : FnScope ["factor", "row", "exponent", "byte"] ["factor", "row"] (defScope (top 23)) := ⟨rfl, rfl, rfl, by decide +kernel, rfl, by decide +kernel, by decide +kernel⟩
def sp_times : L2.Sp := fun vs H Q _ => ∃ (y : V) (a : UInt8) (b : Sp.Bytes), vs = [bv a, y] ∧ IsB H y b ∧ b.length ≤ 65536 ∧ RB H Q (Sp.scale a b)
theorem ok_times {f : Addr} {fd : FuncData} (F : Fun K "times" "times" (top 23) f fd) (B : Bi mg) (t : Tb K mg a_POWERS a_EXPONENTS) : FnOk P w K mg base CX0 1 f fd ["factor", "row"] sp_times := by
  refine F.ok sc_times (fun vs H Q E h => ?_) (fun cdv A outer s H vs Q E hr h => ?_)
  · obtain ⟨y, a, b, rfl, _⟩ := h
    rfl
  · obtain ⟨y, a, b, rfl, ⟨p, rfl, hp⟩, hb, k⟩ := h
    have m_POWERS := t.mP
    have m_EXPONENTS := t.mE
    refine ⟨_, (pss_cons (ps_if (pt_cmpR op_eq (pv 0) pe_int (nomark _)) (pss_one (ps_ret (pe_op op_rep (pe_lst (pa_cons pe_int pa_nil)) (pe_callB call_len_seq rfl B.len PySem.boot_len (pa_cons (pv 1) pa_nil))))) pss_nil)
      (pss_cons (ps_set (i := 2) sc_times.nd rfl (Or.inr rfl) (pe_ix ix_tup (pe_gr rfl m_EXPONENTS) (pv 0) (fun _ _ => rfl)))
      (pss_one (ps_ret (pe_lc (g := (gName 3)) (te := (tIf (tTest (tOp (rI0 fun i j => .bl (decide (j < i))) (tVar 3) (tC (.int 0)))) (tOp (rIxT K) (tC (.ref a_POWERS)) (tOp (rI (fun _ j => 0 < j) fun i j => .int (i % j)) (tOp (rI0 fun i j => .int (i + j)) (tVar 2) (tOp (rIxT K) (tC (.ref a_EXPONENTS)) (tVar 3))) (tC (.int 255)))) (tC (.int 0)))) (own := [("byte", 3)]) rfl sc_times.nd (pi_list (pv 1)) (blkOk_by (by rfl)) (fun s H C cl fp => (pg_name (i := 3) sc_times.nd rfl (Or.inl rfl) (Or.inr rfl))) (fun s H C cl fp => pts_nil) (fun s H C cl fp => (pe_ifExp (pt_cmpR op_gt (pv 3) pe_int (nomark _)) (pe_ix ix_tup (pe_gr rfl m_POWERS) (pe_op op_mod (pe_op op_add (pv 2) (pe_ix ix_tup (pe_gr rfl m_EXPONENTS) (pv 3) (fun _ _ => rfl))) pe_int) (fun _ _ => rfl)) pe_int))))))), ?_⟩
    refine ⟨_, rfl, rfl, _, rfl, ?_⟩
    refine ite2 (fun h => ?_) (fun h => ?_)
    · have ha : a = 0 := by
        have := V.int.inj (of_decide_eq_true h)
        exact UInt8.toNat_inj.mp (by show a.toNat = 0; omega)
      refine ⟨z1L, fun l hl => ?_⟩
      refine ⟨_, rfl, p, _, rfl, .inl (SqL.of (Same.new hl _ _ hp)), l, _, _, rfl, rfl, upd_same, by omega, by rw [bvs_len]; omega, by show 1 * _ ≤ 2 ^ 24; rw [bvs_len]; omega, fun q hq => ?_⟩
      have s1 : Same H (upd H l (.lst [V.int 0])) := .new hl
      refine k _ q (s1.trans (.new hq)) (s1.free hq) ?_
      rw [upd_same, bvs_len, Int.toNat_natCast, rep_noughts, ha]
      congr 3
      refine Rw.bytes_ext (by rw [Rw.noughts_len, Rw.scale_len]) fun t _ => ?_
      rw [Rw.noughts_getD, Rw.scale_getD, Fld.zero_mul]
    · have ha : a ≠ 0 := fun e => h (by rw [e]; rfl)
      refine ⟨_, rfl, a_EXPONENTS, _, _, nv (EXP.getD a.toNat 0), rfl, rfl, t.sE _, at_of rfl (nvs_at (by rw [EXP_len]; exact a.toNat_lt)), ?_⟩
      refine ⟨_, rfl, p, rfl, ⟨_, SqL.of hp⟩, fun D hD => ?_⟩
      refine lc_list (Acc H D fun j y _ => y = bv (Sp.mul8 a (b.getD j 0))) (Acc.start hD) (fun i H1 _ z => SqL.of (z.same _ _ hp)) (fun i x H1 e1 z => ?_) (fun H1 z => ?_)
      · obtain ⟨h1, rfl⟩ := bvs_get e1
        obtain ⟨c, hcd⟩ : ∃ c, b.getD i 0 = c := ⟨_, rfl⟩
        rw [hcd]
        refine ⟨rfl, _, rfl, _, _, rfl, rfl, _, rfl, ?_⟩
        refine ite2 (fun h2 => ?_) (fun h2 => ?_)
        · have hc : c ≠ 0 := fun e => by
            have := of_decide_eq_true h2
            rw [e] at this
            exact absurd this (by decide)
          have l1 := exp_lt _ a.toNat_lt
          have l2 := exp_lt _ c.toNat_lt
          refine ⟨_, rfl, _, rfl, a_EXPONENTS, _, _, nv (EXP.getD c.toNat 0), rfl, rfl, t.sE _, at_of rfl (nvs_at (by rw [EXP_len]; exact c.toNat_lt)), _, _, rfl, rfl, _, _, rfl, rfl, (by show (0 : Int) < 255; decide), a_POWERS, _, _, nv (POW.getD ((EXP.getD a.toNat 0 + EXP.getD c.toNat 0) % 255) 0), rfl, rfl, t.sP _, at_of ?_ (nvs_at (by rw [POW_len]; exact Nat.mod_lt _ (by decide))), ?_⟩
          · show ((EXP.getD a.toNat 0 : Int) + (EXP.getD c.toNat 0 : Int)) % 255 = _
            omega
          · exact Acc.push (fun _ _ _ _ _ h => h) hD z (.refl _) (by rw [hcd]; exact congrArg V.int (congrArg _ (mul_tab ha hc))) (by omega)
        · have hc : c = 0 := by
            have : ¬ (0 : Int) < (c.toNat : Int) := fun e => h2 (decide_eq_true e)
            exact UInt8.toNat_inj.mp (by show c.toNat = 0; omega)
          subst hc
          exact Acc.push (fun _ _ _ _ _ h => h) hD z (.refl _) (by rw [hcd, Fld.mul_zero]; rfl) (by omega)
      · obtain ⟨ys, g1, g2, g3⟩ := z.ex
        refine k H1 D z.same hD ?_
        rw [g1, vals_of g2 g3, scale_range, bvs_range, bvs_len]
end
end Sn
end
section
set_option maxHeartbeats 2000000
namespace Sn
open PySem PySem.Spec PyProof.Rows L2
open Rw (vAt)
section
variable {P : Program} {w : World} {K : PySem.W.Frag} {mg : Str → Option Value} {base : Heap} {C a_POWERS a_EXPONENTS : Addr}
theorem AllB.get {H : Hp} {vs : List V} {rs : List Sp.Bytes} (h : AllB H vs rs) {i : Nat} (hi : i < rs.length) : ∃ p, vs[i]? = some (.ref p) ∧ H p = some (.lst (bvs (rs.getD i []))) := by
  have h1 : i < vs.length := by rw [h.1]; exact hi
  obtain ⟨p, e1, e2⟩ := h.2 i vs[i] rs[i] (List.getElem?_eq_getElem h1) (List.getElem?_eq_getElem hi)
  refine ⟨p, by rw [List.getElem?_eq_getElem h1, e1], ?_⟩
  rw [e2, List.getD_eq_getElem?_getD, List.getElem?_eq_getElem hi]
  rfl
theorem AllB.of {H : Hp} {vs : List V} {rs : List Sp.Bytes} (h : AllB H vs rs) {i : Nat} {x : V} (e : vs[i]? = some x) : i < rs.length ∧ ∃ p, x = .ref p ∧ H p = some (.lst (bvs (rs.getD i []))) := by
  have h1 := (List.getElem?_eq_some_iff.mp e).1
  have hi : i < rs.length := by rw [← h.1]; exact h1
  obtain ⟨p, e1, e2⟩ := h.get hi
  rw [e] at e1
  exact ⟨hi, p, Option.some.inj e1, e2⟩
theorem getD_mem' {rs : List Sp.Bytes} {i : Nat} (h : i < rs.length) : rs.getD i [] ∈ rs := by
  rw [List.getD_eq_getElem?_getD, List.getElem?_eq_getElem h]; exact List.getElem_mem h
theorem vAt_drop {L : Nat} {p : UInt8} {rows : List Sp.Bytes} {i : Nat} (h : i < rows.length) : vAt L p (rows.drop (rows.length - (i + 1))) = Sp.xor (Sp.scale p (vAt L p (rows.drop (rows.length - i)))) (rows.getD (rows.length - 1 - i) []) := by
  have h1 : rows.length - (i + 1) < rows.length := by omega
  rw [List.drop_eq_getElem_cons h1, show rows.length - (i + 1) + 1 = rows.length - i by omega, List.getD_eq_getElem?_getD, show rows.length - 1 - i = rows.length - (i + 1) by omega, List.getElem?_eq_getElem h1]
  rfl
theorem sc_value_at : FnScope ["place", "rows", "value", "row"] ["place", "rows"] (defScope (top 25)) := ⟨rfl, rfl, rfl, by decide +kernel, rfl, by decide +kernel, by decide +kernel⟩
def sp_value_at : L2.Sp := fun vs H Q _ => ∃ (y : V) (pl : UInt8) (rows : List Sp.Bytes) (L : Nat), vs = [bv pl, y] ∧ IsR H y rows ∧ 0 < rows.length ∧ (∀ r ∈ rows, r.length = L) ∧ L ≤ 65536 ∧ RB H Q (vAt L pl rows)
theorem ok_value_at {f : Addr} {fd : FuncData} (F : Fun K "value_at" "value_at" (top 25) f fd) (B : Bi mg) (g_plus : Gd P w K mg base 1 "plus" ["row", "other"] sp_plus) (g_times : Gd P w K mg base 1 "times" ["factor", "row"] sp_times) :
    FnOk P w K mg base CX0 2 f fd ["place", "rows"] sp_value_at := by
  refine F.ok sc_value_at (fun vs H Q E h => ?_) (fun cdv A outer s H vs Q E hr h => ?_)
  · obtain ⟨y, pl, rows, L, rfl, _⟩ := h
    rfl
  · obtain ⟨y, pl, rows, L, rfl, ⟨p, vs, rfl, hp, hv⟩, h0, hL, hL2, k⟩ := h
    obtain ⟨p0, e0, hp0⟩ := hv.get h0
    refine ⟨_, (pss_cons (ps_set (i := 2) sc_value_at.nd rfl (Or.inl rfl) (pe_op op_rep (pe_lst (pa_cons pe_int pa_nil)) (pe_callB call_len_seq rfl B.len PySem.boot_len (pa_cons (pe_ix ix_list (pv 1) pe_int (fun _ _ => rfl)) pa_nil))))
      (pss_cons (ps_for PassesOwn.never rfl (pi_reversed rfl B.reversed (pa_cons (pv 1) pa_nil)) (pg_name (i := 3) sc_value_at.nd rfl (Or.inl rfl)) (pss_one (ps_set (i := 2) sc_value_at.nd rfl (Or.inl rfl) (pe_g g_plus (hr.mono (by decide)) rfl (pa_cons (pe_g g_times (hr.mono (by decide)) rfl (pa_cons (pv 0) (pa_cons (pv 2) pa_nil))) (pa_cons (pv 3) pa_nil))))))
      (pss_one (ps_ret (pv 2))))), ?_⟩
    refine ⟨z1L, fun l hl => ?_⟩
    have s1 : Same H (upd H l (.lst [V.int 0])) := .new hl
    have hr0 : (rows.getD 0 []).length = L := hL _ (getD_mem' h0)
    refine ⟨_, rfl, p, vs, 0, _, rfl, rfl, SqL.of (s1 _ _ hp), atI_nat (j := 0) e0, p0, _, rfl, .inl (SqL.of (s1 _ _ hp0)), l, _, _, rfl, rfl, upd_same, by omega, by rw [bvs_len]; omega, by show 1 * _ ≤ 2 ^ 24; rw [bvs_len]; omega, fun q hq => ?_⟩
    rw [bvs_len, hr0, Int.toNat_natCast, rep_noughts]
    have s2 : Same H (upd (upd H l (.lst [V.int 0])) q (.lst (bvs (Sp.noughts L)))) := s1.trans (.new hq)
    refine ⟨_, rfl, p, vs, rfl, SqL.of (s2 _ _ hp), ?_⟩
    refine for_rev (fun i σ H1 => ∃ a r, σ = [some (bv pl), some (V.ref p), some (V.ref a), r] ∧ Same H H1 ∧ H a = none ∧ H1 a = some (.lst (bvs (vAt L pl (rows.drop (rows.length - i)))))) ?_ ?_ ?_ ?_
    · exact ⟨q, none, rfl, s2, s1.free hq, by rw [upd_same, Nat.sub_zero, List.drop_length]; rfl⟩
    · rintro i σ H1 ⟨a, r, rfl, s3, _⟩
      exact SqL.of (s3 _ _ hp)
    · rintro i x σ H1 hi e ⟨a, r, rfl, s3, na, ha⟩
      obtain ⟨h2, px, rfl, hpx⟩ := hv.of e
      rw [hv.1] at h2 hpx
      have hlr : (rows.getD (rows.length - 1 - i) []).length = L := hL _ (getD_mem' h2)
      have hlv : (vAt L pl (rows.drop (rows.length - i))).length = L := Rw.vAt_len fun r hr => hL r (List.mem_of_mem_drop hr)
      refine ⟨_, rfl, _, rfl, _, pl, _, rfl, ⟨a, rfl, ha⟩, by omega, fun H2 a2 s4 n2 e2 => ?_⟩
      refine ⟨_, rfl, _, _, _, _, rfl, ⟨a2, rfl, e2⟩, ⟨px, rfl, s4 _ _ (s3 _ _ hpx)⟩, by rw [Rw.scale_len]; omega, fun H3 a3 s5 n3 e3 => ?_⟩
      refine ⟨a3, _, rfl, (s3.trans s4).trans s5, (s3.trans s4).free n3, ?_⟩
      rw [e3, vAt_drop (by rw [← hv.1]; exact hi)]
    · rintro σ H1 ⟨a, r, rfl, s3, na, ha⟩
      refine ⟨_, rfl, ?_⟩
      refine k H1 a s3 na ?_
      rw [ha, hv.1, Nat.sub_self]
      rfl
end
end Sn
end
section
set_option maxHeartbeats 4000000
namespace Sn
open PySem PySem.Spec PyProof.Rows L2
open Rw (vAt ddR throughR)
section
variable {P : Program} {w : World} {K : PySem.W.Frag} {mg : Str → Option Value} {base : Heap} {C a_POWERS a_EXPONENTS : Addr}
def Apart (ps : Sp.Bytes) : Prop := ∀ i j, i < ps.length → j < ps.length → i ≠ j → ps.getD i 0 ≠ ps.getD j 0
def RowsAt (H : Hp) (la : Addr) (n : Nat) (F : Nat → Sp.Bytes) (G : Hp) : Prop := ∃ lvs, H la = some (.lst lvs) ∧ lvs.length = n ∧ ∀ j y, lvs[j]? = some y → ∃ a, y = .ref a ∧ G a = some (.lst (bvs (F j)))
theorem RowsAt.mono {H H' G G' : Hp} {la : Addr} {n : Nat} {F : Nat → Sp.Bytes} (h : RowsAt H la n F G) (s : Same H H') (s' : Same G G') : RowsAt H' la n F G' := by
  obtain ⟨lvs, h1, h2, h3⟩ := h
  exact ⟨lvs, s _ _ h1, h2, fun j y e => let ⟨a, e1, e2⟩ := h3 j y e; ⟨a, e1, s' _ _ e2⟩⟩
theorem RowsAt.get {H G : Hp} {la : Addr} {n : Nat} {F : Nat → Sp.Bytes} (h : RowsAt H la n F G) {j : Nat} (hj : j < n) : ∃ lvs a, H la = some (.lst lvs) ∧ lvs[j]? = some (.ref a) ∧ G a = some (.lst (bvs (F j))) := by
  obtain ⟨lvs, h1, h2, h3⟩ := h
  have hj : j < lvs.length := by omega
  obtain ⟨a, e1, e2⟩ := h3 j lvs[j] (List.getElem?_eq_getElem hj)
  exact ⟨lvs, a, h1, by rw [List.getElem?_eq_getElem hj, e1], e2⟩
theorem sc_divided_differences : FnScope ["places", "values", "layer", "firsts", "gap", "at"] ["places", "values"] (defScope (top 26)) := ⟨rfl, rfl, rfl, by decide +kernel, rfl, by decide +kernel, by decide +kernel⟩
def sp_divided_differences : L2.Sp := fun vs H Q _ => ∃ (x y : V) (ps : Sp.Bytes) (rows : List Sp.Bytes) (L : Nat), vs = [x, y] ∧ IsB H x ps ∧ IsR H y rows ∧ rows.length = ps.length ∧ 0 < ps.length ∧ ps.length ≤ 9 ∧ Apart ps ∧ (∀ r ∈ rows, r.length = L) ∧ L ≤ 65536 ∧
  ∀ H' a, Same H H' → RowsAt H' a ps.length (fun g => ddR (fun i => ps.getD i 0) (fun i => rows.getD i []) g 0) H' → Q (.ref a) H'
theorem ok_divided_differences {f : Addr} {fd : FuncData} (F : Fun K "divided_differences" "divided_differences" (top 26) f fd) (B : Bi mg) (g_plus : Gd P w K mg base 1 "plus" ["row", "other"] sp_plus) (g_times : Gd P w K mg base 1 "times" ["factor", "row"] sp_times)
    (g_inverse : Gd P w K mg base 1 "inverse" ["byte"] sp_inverse) :
    FnOk P w K mg base CX0 2 f fd ["places", "values"] sp_divided_differences := by
  refine F.ok sc_divided_differences (fun vs H Q E h => ?_) (fun cdv A outer s H vs Q E hr h => ?_)
  · obtain ⟨x, y, ps, rows, L, rfl, _⟩ := h
    rfl
  · obtain ⟨x, y, ps, rows, L, rfl, ⟨p, rfl, hp⟩, ⟨q, vs, rfl, hq, hv⟩, hm, h0, h9, hA, hL, hL2, k⟩ := h
    obtain ⟨p0, e0, hp0⟩ := hv.get (i := 0) (by omega)
    have hvl : ∀ i, i < ps.length → (rows.getD i []).length = L := fun i hi => hL _ (getD_mem' (by omega))
    have hdl : ∀ g a, a + g < ps.length → (ddR (fun i => ps.getD i 0) (fun i => rows.getD i []) g a).length = L := Rw.ddR_len hvl
    refine ⟨_, (pss_cons (ps_set (i := 2) sc_divided_differences.nd rfl (Or.inr rfl) (pe_callTy call_list_of rfl B.list boot_list (pa_cons (pv 1) pa_nil)))
      (pss_cons (ps_set (i := 3) sc_divided_differences.nd rfl (Or.inl rfl) (pe_lst (pa_cons (pe_ix ix_list (pv 2) pe_int (fun _ _ => rfl)) pa_nil)))
      (pss_cons (ps_for PassesOwn.never rfl (pi_range2 rfl B.range (pa_cons pe_int (pa_cons (pe_callB call_len_seq rfl B.len PySem.boot_len (pa_cons (pv 0) pa_nil)) pa_nil))) (pg_name (i := 4) sc_divided_differences.nd rfl (Or.inr rfl)) (pss_cons (ps_set (i := 2) sc_divided_differences.nd rfl (Or.inr rfl) (pe_lc (g := (gName 5)) (te := (tCall sp_times [] E0 (tCons (tCall sp_inverse [] E0 (tCons (tOp (rI0 fun i j => .int (Builtin.bitXor i j)) (tOp (rIxL K) (tVar 0) (tVar 5)) (tOp (rIxL K) (tVar 0) (tOp (rI0 fun i j => .int (i + j)) (tVar 5) (tVar 4)))) tNil)) (tCons (tCall sp_plus [] E0 (tCons (tOp (rIxL K) (tVar 2) (tVar 5)) (tCons (tOp (rIxL K) (tVar 2) (tOp (rI0 fun i j => .int (i + j)) (tVar 5) (tC (.int 1)))) tNil))) tNil)))) (own := [("at", 5)]) rfl sc_divided_differences.nd (pi_range1 rfl B.range (pa_cons (pe_op op_sub (pe_callB call_len_seq rfl B.len PySem.boot_len (pa_cons (pv 2) pa_nil)) pe_int) pa_nil)) (blkOk_by (by rfl)) (fun s H C cl fp => (pg_name (i := 5) sc_divided_differences.nd rfl (Or.inl rfl) (Or.inr rfl))) (fun s H C cl fp => pts_nil) (fun s H C cl fp => (pe_g g_times (hr.mono (by decide)) rfl (pa_cons (pe_g g_inverse (hr.mono (by decide)) rfl (pa_cons (pe_op op_xor (pe_ix ix_list (pv 0) (pv 5) (fun _ _ => rfl)) (pe_ix ix_list (pv 0) (pe_op op_add (pv 5) (pv 4)) (fun _ _ => rfl))) pa_nil)) (pa_cons (pe_g g_plus (hr.mono (by decide)) rfl (pa_cons (pe_ix ix_list (pv 2) (pv 5) (fun _ _ => rfl)) (pa_cons (pe_ix ix_list (pv 2) (pe_op op_add (pv 5) pe_int) (fun _ _ => rfl)) pa_nil))) pa_nil))))))
      (pss_one (ps_expr (pe_bm PySem.F.plainAttrs_list PySem.F.slot_list_append PySem.F.type_list_append mt_append (pv 3) (pa_cons (pe_ix ix_list (pv 2) pe_int (fun _ _ => rfl)) pa_nil))))))
      (pss_one (ps_ret (pv 3)))))), ?_⟩
    refine ⟨_, rfl, q, vs, rfl, .inl (SqL.of hq), fun l hl => ?_⟩
    have s1 : Same H (upd H l (.lst vs)) := .new hl
    refine ⟨_, rfl, l, vs, 0, _, rfl, rfl, SqL.of upd_same, atI_nat (j := 0) e0, z1L, fun fa hfa => ?_⟩
    have s2 : Same (upd H l (.lst vs)) (upd (upd H l (.lst vs)) fa (.lst [V.ref p0])) := .new hfa
    have nl : l ≠ fa := ne_of_none upd_same hfa
    have nf : H fa = none := s1.free hfa
    refine ⟨_, rfl, p, _, rfl, .inl (SqL.of ((s1.trans s2) _ _ hp)), _, _, rfl, ⟨by omega, by omega, by omega, by rw [bvs_len]; omega⟩, ?_⟩
    rw [bvs_len, show (((ps.length : Nat) : Int) - 1).toNat = ps.length - 1 by omega]
    refine for_range (fun i σ H1 => ∃ la rg, σ = [some (V.ref p), some (V.ref q), some (V.ref la), some (V.ref fa), rg, none] ∧ Same H H1 ∧ la ≠ fa ∧
      RowsAt H1 la (ps.length - i) (fun a => ddR (fun i => ps.getD i 0) (fun i => rows.getD i []) i a) (hid fa H1) ∧
      RowsAt H1 fa (i + 1) (fun g => ddR (fun i => ps.getD i 0) (fun i => rows.getD i []) g 0) (hid fa H1)) ?_ ?_ ?_
    · refine ⟨l, none, rfl, s1.trans s2, nl, ⟨vs, s2 _ _ upd_same, by rw [hv.1, hm]; rfl, fun j y e => ?_⟩, ⟨[V.ref p0], upd_same, rfl, fun j y e => ?_⟩⟩
      · obtain ⟨h1, pa, rfl, hpa⟩ := hv.of e
        refine ⟨pa, rfl, ?_⟩
        rw [hid_upd]
        exact hid_at (s1 _ _ hpa) (ne_of_none hpa nf)
      · cases j with
        | succ j => simp at e
        | zero =>
          have e : V.ref p0 = y := by simpa using e
          subst e
          refine ⟨p0, rfl, ?_⟩
          rw [hid_upd]
          exact hid_at (s1 _ _ hp0) (ne_of_none hp0 nf)
    · rintro i σ H1 hi ⟨la, rg, rfl, s3, nla, hla, hfa1⟩
      obtain ⟨lvs0, a00, hla0, _, _⟩ := hla.get (j := 0) (by omega)
      have hlen : lvs0.length = ps.length - i := by
        obtain ⟨lvs, h1, h2, _⟩ := hla
        rw [h1] at hla0
        cases hla0
        exact h2
      obtain ⟨fvs, hf1, hf2, hf3⟩ := hfa1
      refine ⟨_, rfl, la, _, rfl, .inl (SqL.of hla0), _, _, rfl, rfl, _, rfl, by omega, by omega, fun D hD => ?_⟩
      rw [hlen, show (((ps.length - i : Nat) : Int) - 1).toNat = ps.length - (i + 1) by omega]
      refine lc_range (Acc H1 D fun j y G => ∃ a, y = .ref a ∧ G a = some (.lst (bvs (ddR (fun i => ps.getD i 0) (fun i => rows.getD i []) (i + 1) j))) ∧ H1 a = none) (Acc.start hD) (fun j H2 hj z => ?_) (fun H2 z => ?_)
      · obtain ⟨lvs, a1, g1, g2, g3⟩ := (hla.mono z.same (hid_mono z.same)).get (j := j) (by omega)
        obtain ⟨lvs', a2, g1', g2', g3'⟩ := (hla.mono z.same (hid_mono z.same)).get (j := j + 1) (by omega)
        have hp2 := (s3.trans z.same) _ _ hp
        obtain ⟨yD, zD, _⟩ := z.ex
        refine ⟨rfl, _, rfl, _, rfl, p, _, _, bv (ps.getD j 0), rfl, rfl, SqL.of hp2, at_of (by omega) (bvs_at (by omega)), _, rfl, _, rfl, _, rfl, _, _, rfl, rfl, p, _, _, bv (ps.getD (j + (i + 1)) 0), rfl, rfl, SqL.of hp2, at_of (by omega) (bvs_at (by omega)), _, _, rfl, rfl, ?_⟩
        have hne : ps.getD j 0 ^^^ ps.getD (j + (i + 1)) 0 ≠ 0 := fun e => hA j (j + (i + 1)) (by omega) (by omega) (by omega) (Fld.xor_eq_zero.mp e)
        refine ⟨_, congrArg (fun z => [V.int z]) (xor_int _ _), hne, ?_⟩
        refine ⟨_, rfl, _, rfl, la, _, _, _, rfl, rfl, SqL.of g1, at_of (by omega) g2, _, rfl, _, rfl, _, _, rfl, rfl, la, _, _, _, rfl, rfl, SqL.of g1', at_of (by omega) g2', ?_⟩
        have hd1 := hdl i j (by omega)
        have hd2 := hdl i (j + 1) (by omega)
        refine ⟨_, _, _, _, rfl, ⟨a1, rfl, hid_same _ _ _ _ g3⟩, ⟨a2, rfl, hid_same _ _ _ _ g3'⟩, by rw [hd1]; exact hL2, fun H3 a3 s4 n3 e3 => ?_⟩
        refine ⟨_, _, _, rfl, ⟨a3, rfl, e3⟩, by rw [Rw.xor_len, hd1, hd2]; omega, fun H4 a4 s5 n4 e4 => ?_⟩
        refine Acc.push (fun _ _ _ _ s ⟨a, e1, e2, e3⟩ => ⟨a, e1, s _ _ e2, e3⟩) hD z (s4.trans s5) ⟨a4, rfl, hid_at e4 (ne_of_none (s4 _ _ zD) n4).symm, (z.same.trans s4).free n4⟩ (by omega)
      · obtain ⟨ys, g1, g2, g3⟩ := z.ex
        have y0 : 0 < ys.length := by omega
        obtain ⟨b0, eb0, hb0, nb0⟩ := g3 0 ys[0] (List.getElem?_eq_getElem y0)
        have hfD : fa ≠ D := ne_of_none hf1 hD
        refine ⟨_, rfl, .inl ⟨rfl, _, SqL.of (z.same _ _ hf1)⟩, _, rfl, D, _, _, .ref b0, rfl, rfl, SqL.of g1, atI_nat (j := 0) (by rw [List.getElem?_eq_getElem y0, eb0]), fa, _, _, rfl, rfl, z.same _ _ hf1, by show _ < 2 ^ 24; omega, ?_⟩
        refine ⟨D, _, rfl, (s3.trans z.same).upd nf, hfD.symm, ⟨ys, ?_, g2, fun j y e => ?_⟩, ⟨fvs ++ [V.ref b0], upd_same, by simp [hf2], fun j y e => ?_⟩⟩
        · rw [upd_ne hfD.symm]; exact g1
        · obtain ⟨a, e1, e2, e3⟩ := g3 j y e
          refine ⟨a, e1, ?_⟩
          rw [hid_upd]
          exact hid_at (hid_same _ _ _ _ e2) (ne_of_none hf1 e3).symm
        · rw [hid_upd]
          by_cases hj : j < fvs.length
          · rw [List.getElem?_append_left hj] at e
            obtain ⟨a, e1, e2⟩ := hf3 j y e
            exact ⟨a, e1, hid_mono z.same _ _ e2⟩
          · rw [List.getElem?_append_right (by omega)] at e
            have hj2 : j = i + 1 := by
              cases q : j - fvs.length with
              | zero => omega
              | succ n => rw [q] at e; simp at e
            subst hj2
            rw [hf2, Nat.sub_self] at e
            have e : V.ref b0 = y := by simpa using e
            subst e
            exact ⟨b0, rfl, hid_at (hid_same _ _ _ _ hb0) (ne_of_none hf1 nb0).symm⟩
    · rintro σ H1 ⟨la, rg, rfl, s3, nla, hla, hfa1⟩
      refine ⟨_, rfl, ?_⟩
      refine k H1 fa s3 ?_
      rw [show ps.length - 1 + 1 = ps.length by omega] at hfa1
      exact hfa1.mono (.refl _) (hid_same _ _)
end
end Sn
end
section
set_option maxHeartbeats 4000000
namespace Sn
open PySem PySem.Spec PyProof.Rows L2
open Rw (vAt ddR throughR wrR wrAR hornerR addCR)
section
variable {P : Program} {w : World} {K : PySem.W.Frag} {mg : Str → Option Value} {base : Heap} {C a_POWERS a_EXPONENTS : Addr}
def RowNew (H : Hp) (F : Nat → Sp.Bytes) : Nat → V → Hp → Prop := fun j y G => ∃ q, y = .ref q ∧ H q = none ∧ G q = some (.lst (bvs (F j)))
theorem RowNew.mono {H : Hp} {F : Nat → Sp.Bytes} : ∀ i v G G', Same G G' → RowNew H F i v G → RowNew H F i v G' := fun _ _ _ _ s ⟨q, e1, e2, e3⟩ => ⟨q, e1, e2, s _ _ e3⟩
theorem acc_pushR {H : Hp} {D : Addr} {F : Nat → Sp.Bytes} {i : Nat} {H1 H4 : Hp} {q : Addr} (hD : H D = none) (z : Acc H D (RowNew H F) i H1) (s : Same H1 H4) (n : H1 q = none) (e : H4 q = some (.lst (bvs (F i)))) (hi : i < 16777216) :
    ∃ acc, H4 D = some (.lst acc) ∧ acc.length < sizeLine ∧ Acc H D (RowNew H F) (i + 1) (upd H4 D (.lst (acc ++ [V.ref q]))) := by
  obtain ⟨ys, g1, _⟩ := z.ex
  exact Acc.push RowNew.mono hD z s ⟨q, rfl, z.same.free n, hid_at e fun c => by rw [c, g1] at n; cases n⟩ hi
theorem acc_pushR' {H : Hp} {D : Addr} {F : Nat → Sp.Bytes} {i : Nat} {H1 H3 H4 : Hp} {q : Addr} (hD : H D = none) (z : Acc H D (RowNew H F) i H1) (s : Same H1 H3) (s' : Same H3 H4) (n : H3 q = none) (e : H4 q = some (.lst (bvs (F i)))) (hi : i < 16777216) :
    ∃ acc, H4 D = some (.lst acc) ∧ acc.length < sizeLine ∧ Acc H D (RowNew H F) (i + 1) (upd H4 D (.lst (acc ++ [V.ref q]))) :=
  acc_pushR hD z (s.trans s') (s.free n) e hi
theorem allB_range {G : Hp} {ys : List V} {n : Nat} {F : Nat → Sp.Bytes} (h : ys.length = n) (e : ∀ j y, ys[j]? = some y → IsB G y (F j)) : AllB G ys ((List.range n).map F) := by
  refine ⟨by simp [h], fun i v r e1 e2 => ?_⟩
  rw [List.getElem?_map] at e2
  cases e3 : (List.range n)[i]? with
  | none => rw [e3] at e2; cases e2
  | some t =>
    rw [e3] at e2
    cases e2
    have : t = i := by
      obtain ⟨h1, h2⟩ := List.getElem?_eq_some_iff.mp e3
      rw [← h2, List.getElem_range]
    rw [this]
    exact e i v e1
theorem acc_rows {H : Hp} {D : Addr} {F : Nat → Sp.Bytes} {n : Nat} {H1 : Hp} (hD : H D = none) (z : Acc H D (RowNew H F) n H1) : ∃ ys, H1 D = some (.lst ys) ∧ AllB (nw H (hid D H1)) ys ((List.range n).map F) := by
  obtain ⟨ys, g1, g2, g3⟩ := z.ex
  refine ⟨ys, g1, allB_range g2 fun j y e => ?_⟩
  obtain ⟨q, e1, e2, e3⟩ := g3 j y e
  exact ⟨q, e1, nw_at e2 e3⟩
theorem nw_hidS {H : Hp} {D : Addr} {H1 : Hp} : Same (nw H (hid D H1)) (nw H H1) := fun b o e => by
  obtain ⟨h1, h2⟩ := nw_of e
  exact nw_at h1 (hid_same _ _ _ _ h2)
theorem acc_isR {H : Hp} {D : Addr} {F : Nat → Sp.Bytes} {n : Nat} {H1 : Hp} (hD : H D = none) (z : Acc H D (RowNew H F) n H1) : IsR (nw H H1) (.ref D) ((List.range n).map F) := by
  obtain ⟨ys, g1, g2⟩ := acc_rows hD z
  exact ⟨D, ys, rfl, nw_at hD g1, g2.mono nw_hidS⟩
theorem nw_mono {H H1 H2 : Hp} (s : Same H1 H2) : Same (nw H H1) (nw H H2) := fun b o e => by
  obtain ⟨h1, h2⟩ := nw_of e
  exact nw_at h1 (s _ _ h2)
theorem AllB.append {H : Hp} {xs ys : List V} {as bs : List Sp.Bytes} (h1 : AllB H xs as) (h2 : AllB H ys bs) : AllB H (xs ++ ys) (as ++ bs) := by
  refine ⟨by rw [List.length_append, List.length_append, h1.1, h2.1], fun i v r e1 e2 => ?_⟩
  by_cases h : i < xs.length
  · rw [List.getElem?_append_left h] at e1
    rw [List.getElem?_append_left (by rw [← h1.1]; exact h)] at e2
    exact h1.2 i v r e1 e2
  · rw [List.getElem?_append_right (by omega)] at e1
    rw [List.getElem?_append_right (by rw [← h1.1]; omega), ← h1.1] at e2
    exact h2.2 _ v r e1 e2
theorem AllB.one {H : Hp} {p : Addr} {b : Sp.Bytes} (h : H p = some (.lst (bvs b))) : AllB H [V.ref p] [b] := by
  refine ⟨rfl, fun i v r e1 e2 => ?_⟩
  cases i with
  | succ i => simp at e1
  | zero =>
    have e1 : V.ref p = v := by simpa using e1
    have e2 : b = r := by simpa using e2
    subst e1 e2
    exact ⟨p, rfl, h⟩
theorem AllB.set0 {H : Hp} {xs : List V} {as : List Sp.Bytes} {p : Addr} {b : Sp.Bytes} (h : AllB H xs as) (e : H p = some (.lst (bvs b))) (c : Sp.Bytes) (hb : b = Sp.xor (as.getD 0 []) c) : AllB H (xs.set 0 (.ref p)) (addCR c as) := by
  obtain ⟨h1, h2⟩ := h
  cases xs with
  | nil =>
    cases as with
    | nil => exact ⟨rfl, fun i v r e1 => by simp at e1⟩
    | cons a as => cases h1
  | cons x xs =>
    cases as with
    | nil => cases h1
    | cons a as =>
      refine ⟨h1, fun i v r e1 e2 => ?_⟩
      cases i with
      | zero =>
        have e1 : V.ref p = v := by simpa using e1
        have e2 : Sp.xor a c = r := by simpa [addCR] using e2
        subst e1 e2
        exact ⟨p, rfl, by rw [e, hb]; rfl⟩
      | succ i => exact h2 (i + 1) v r (by simpa using e1) (by simpa [addCR] using e2)
theorem wrAR_range (q : UInt8) : ∀ (r : List Sp.Bytes) (c : Sp.Bytes), wrAR q c r = ((List.range r.length).map fun j => Sp.xor ((c :: r).getD j []) (Sp.scale q ((c :: r).getD (j + 1) []))) ++ [(c :: r).getD r.length []]
  | [], c => rfl
  | b :: r, c => by
    have ih := wrAR_range q r b
    show Sp.xor c (Sp.scale q b) :: wrAR q b r = _
    rw [ih, List.length_cons, List.range_succ_eq_map, List.map_cons, List.map_map, List.cons_append]
    rfl
theorem wrR_range (q : UInt8) {rows : List Sp.Bytes} (h : 0 < rows.length) : wrR q rows = [Sp.scale q (rows.getD 0 [])] ++ ((List.range (rows.length - 1)).map fun j => Sp.xor (rows.getD j []) (Sp.scale q (rows.getD (j + 1) []))) ++ [rows.getD (rows.length - 1) []] := by
  cases rows with
  | nil => cases h
  | cons c r =>
    show Sp.scale q c :: wrAR q c r = _
    rw [wrAR_range]
    rfl
theorem at_last {xs : List V} {v : V} (h : xs[xs.length - 1]? = some v) : atI xs (-1) = some v := by
  have h1 := (List.getElem?_eq_some_iff.mp h).1
  unfold atI ixN
  rw [if_neg (by decide), if_pos (by omega)]
  show xs[((-1 : Int) + xs.length).toNat]? = _
  rw [show ((-1 : Int) + xs.length).toNat = xs.length - 1 by omega]
  exact h
theorem wrR_len (q : UInt8) {rows : List Sp.Bytes} (h : 0 < rows.length) : (wrR q rows).length = rows.length + 1 := by
  rw [wrR_range q h]
  simp
  omega
theorem addCR_len (c : Sp.Bytes) (r : List Sp.Bytes) : (addCR c r).length = r.length := by cases r <;> rfl
theorem hornerR_len (p : Nat → UInt8) (f : Nat → Sp.Bytes) (m : Nat) : ∀ j, (hornerR p f m j).length = j + 1
  | 0 => rfl
  | j + 1 => by
    show (addCR _ (wrR _ (hornerR p f m j))).length = _
    rw [addCR_len, wrR_len _ (by rw [hornerR_len p f m j]; omega), hornerR_len p f m j]
theorem range_getD {F : Nat → Sp.Bytes} {n i : Nat} (h : i < n) : ((List.range n).map F).getD i [] = F i := Rw.getD_range F [] h
def RL (H : Hp) (Q : VK) (rs : List Sp.Bytes) : Prop := ∀ (H' : Hp) (a : Addr) (vs : List V), Same H H' → H a = none → H' a = some (.lst vs) → AllB (hid a H') vs rs → Q (.ref a) H'
theorem sc_with_root : FnScope ["place", "rows", "scaled", "middle", "row", "at"] ["place", "rows"] (defScope (top 27)) := ⟨rfl, rfl, rfl, by decide +kernel, rfl, by decide +kernel, by decide +kernel⟩
def sp_with_root : L2.Sp := fun vs H Q _ => ∃ (y : V) (pl : UInt8) (rows : List Sp.Bytes) (L : Nat), vs = [bv pl, y] ∧ IsR H y rows ∧ 0 < rows.length ∧ rows.length ≤ 9 ∧ (∀ r ∈ rows, r.length = L) ∧ L ≤ 65536 ∧ RL H Q (wrR pl rows)
theorem ok_with_root {f : Addr} {fd : FuncData} (F : Fun K "with_root" "with_root" (top 27) f fd) (B : Bi mg) (g_plus : Gd P w K mg base 1 "plus" ["row", "other"] sp_plus) (g_times : Gd P w K mg base 1 "times" ["factor", "row"] sp_times) :
    FnOk P w K mg base CX0 2 f fd ["place", "rows"] sp_with_root := by
  refine F.ok sc_with_root (fun vs H Q E h => ?_) (fun cdv A outer s H vs Q E hr h => ?_)
  · obtain ⟨y, pl, rows, L, rfl, _⟩ := h
    rfl
  · obtain ⟨y, pl, rows, L, rfl, ⟨p, vs, rfl, hp, hv⟩, h0, h9, hL, hL2, k⟩ := h
    have hlen : ∀ i, i < rows.length → (rows.getD i []).length = L := fun i hi => hL _ (getD_mem' hi)
    refine ⟨_, (pss_cons (ps_set (i := 2) sc_with_root.nd rfl (Or.inr rfl) (pe_lc (g := (gName 4)) (te := (tCall sp_times [] E0 (tCons (tVar 0) (tCons (tVar 4) tNil)))) (own := [("row", 4)]) rfl sc_with_root.nd (pi_list (pv 1)) (blkOk_by (by rfl)) (fun s H C cl fp => (pg_name (i := 4) sc_with_root.nd rfl (Or.inl rfl) (Or.inr rfl))) (fun s H C cl fp => pts_nil) (fun s H C cl fp => (pe_g g_times (hr.mono (by decide)) rfl (pa_cons (pv 0) (pa_cons (pv 4) pa_nil))))))
      (pss_cons (ps_setLc (g := (gName 5)) (te := (tCall sp_plus [] E0 (tCons (tOp (rIxL K) (tVar 1) (tOp (rI0 fun i j => .int (i - j)) (tVar 5) (tC (.int 1)))) (tCons (tOp (rIxL K) (tVar 2) (tVar 5)) tNil)))) (own := [("at", 5)]) (i := 3) rfl sc_with_root.nd rfl rfl rfl (pi_range2 rfl B.range (pa_cons pe_int (pa_cons (pe_callB call_len_seq rfl B.len PySem.boot_len (pa_cons (pv 1) pa_nil)) pa_nil))) (blkOk_by (by rfl)) (fun s H C cl fp => (pg_name (i := 5) sc_with_root.nd rfl (Or.inl rfl) (Or.inr rfl))) (fun s H C cl fp => pts_nil) (fun s H C cl fp => (pe_g g_plus (hr.mono (by decide)) rfl (pa_cons (pe_ix ix_list (pv 1) (pe_op op_sub (pv 5) pe_int) (fun _ _ => rfl)) (pa_cons (pe_ix ix_list (pv 2) (pv 5) (fun _ _ => rfl)) pa_nil)))))
      (pss_one (ps_ret (pe_op op_cat (pe_op op_cat (pe_lst (pa_cons (pe_ix ix_list (pv 2) pe_int (fun _ _ => rfl)) pa_nil)) (pv 3)) (pe_lst (pa_cons (pe_ix ix_list (pv 1) (pe_un un_neg pe_int) (fun _ _ => rfl)) pa_nil))))))), ?_⟩
    refine ⟨_, rfl, p, rfl, ⟨_, SqL.of hp⟩, fun D hD => ?_⟩
    refine lc_list (xs := vs) (Acc H D (RowNew H fun j => Sp.scale pl (rows.getD j []))) (Acc.start hD) (fun i H1 _ z => SqL.of (z.same _ _ hp)) (fun i x H1 e1 z => ?_) (fun H1 z => ?_)
    · obtain ⟨hi, px, rfl, hpx⟩ := hv.of e1
      refine ⟨rfl, _, rfl, _, rfl, _, pl, _, rfl, ⟨px, rfl, z.same _ _ hpx⟩, by rw [hlen i hi]; exact hL2, fun H2 a2 s2 n2 e2 => ?_⟩
      exact acc_pushR hD z s2 n2 e2 (by omega)
    obtain ⟨ys, g1, g2⟩ := acc_rows hD z
    have s1 := z.same
    rw [hv.1] at g2
    have g2l : ∀ i, i < rows.length → ∃ q, ys[i]? = some (.ref q) ∧ H q = none ∧ H1 q = some (.lst (bvs (Sp.scale pl (rows.getD i [])))) := fun i hi => by
      obtain ⟨q, e1, e2⟩ := g2.get (i := i) (by simpa using hi)
      rw [range_getD hi] at e2
      obtain ⟨e3, e4⟩ := nw_of e2
      exact ⟨q, e1, e3, hid_same _ _ _ _ e4⟩
    refine ⟨_, rfl, p, _, rfl, .inl (SqL.of (s1 _ _ hp)), _, _, rfl, ⟨by omega, by omega, by omega, by rw [hv.1]; omega⟩, fun D2 hD2 => ?_⟩
    rw [hv.1, show (((rows.length : Nat) : Int) - 1).toNat = rows.length - 1 by omega]
    refine lc_range (Acc H1 D2 (RowNew H1 fun j => Sp.xor (rows.getD j []) (Sp.scale pl (rows.getD (j + 1) [])))) (Acc.start hD2) (fun j H2 hj z2 => ?_) (fun H2 z2 => ?_)
    · obtain ⟨p1, e1, hp1⟩ := hv.get (i := j) (by omega)
      obtain ⟨p2, e2, _, hp2⟩ := g2l (j + 1) (by omega)
      have s2 := z2.same
      refine ⟨rfl, _, rfl, _, rfl, _, _, rfl, rfl, p, _, _, _, rfl, rfl, SqL.of (s2 _ _ (s1 _ _ hp)), at_of (by omega) e1, _, rfl, _, rfl, D, _, _, _, rfl, rfl, SqL.of (s2 _ _ g1), at_of (by omega) e2, ?_⟩
      refine ⟨_, _, _, _, rfl, ⟨p1, rfl, s2 _ _ (s1 _ _ hp1)⟩, ⟨p2, rfl, s2 _ _ hp2⟩, by rw [hlen j (by omega)]; exact hL2, fun H3 a3 s3 n3 e3 => ?_⟩
      exact acc_pushR hD2 z2 s3 n3 e3 (by omega)
    obtain ⟨ms, m1, m2⟩ := acc_rows hD2 z2
    have s2 := z2.same
    obtain ⟨p0, e0, n0, hp0⟩ := g2l 0 h0
    obtain ⟨pl', el, hpl⟩ := hv.get (i := rows.length - 1) (by omega)
    have hml : ms.length = rows.length - 1 := by rw [m2.1]; simp
    refine ⟨_, rfl, D, _, _, _, rfl, rfl, SqL.of (s2 _ _ g1), atI_nat (j := 0) e0, z1L, fun l1 hl1 => ?_⟩
    have s3 : Same H2 (upd H2 l1 (.lst [V.ref p0])) := .new hl1
    refine ⟨_, rfl, l1, D2, _, _, rfl, rfl, upd_same, s3 _ _ m1, by show _ ≤ 2 ^ 24; simp only [List.length_cons, List.length_nil]; omega, fun l2 hl2 => ?_⟩
    have s4 : Same (upd H2 l1 (.lst [V.ref p0])) (upd (upd H2 l1 (.lst [V.ref p0])) l2 (.lst ([V.ref p0] ++ ms))) := .new hl2
    have s14 := ((s1.trans s2).trans s3).trans s4
    refine ⟨_, rfl, _, rfl, p, _, _, V.ref pl', rfl, rfl, SqL.of (s14 _ _ hp), at_last (by rw [hv.1]; exact el), z1L, fun l3 hl3 => ?_⟩
    have s5 : Same (upd (upd H2 l1 (.lst [V.ref p0])) l2 (.lst ([V.ref p0] ++ ms))) (upd (upd (upd H2 l1 (.lst [V.ref p0])) l2 (.lst ([V.ref p0] ++ ms))) l3 (.lst [V.ref pl'])) := .new hl3
    refine ⟨l2, l3, _, _, rfl, rfl, s5 _ _ upd_same, upd_same, by show _ ≤ 2 ^ 24; simp only [List.length_append, List.length_cons, List.length_nil]; omega, fun l4 hl4 => ?_⟩
    have n4 : H2 l4 = none := ((s3.trans s4).trans s5).free hl4
    refine k _ l4 _ ((s14.trans s5).trans (.new hl4)) ((s1.trans s2).free n4) upd_same ?_
    rw [hid_upd, wrR_range pl h0]
    have sw : Same H2 (hid l4 (upd (upd (upd H2 l1 (.lst [V.ref p0])) l2 (.lst ([V.ref p0] ++ ms))) l3 (.lst [V.ref pl']))) := ((s3.trans s4).trans s5).hid n4
    refine AllB.append (AllB.append (AllB.one ?_) (m2.mono ?_)) (AllB.one ?_)
    · exact sw _ _ (s2 _ _ hp0)
    · exact fun b o e => sw _ _ (hid_same _ _ _ _ (nw_same _ _ _ _ e))
    · exact sw _ _ (s2 _ _ (s1 _ _ hpl))
theorem sc_rows_through : FnScope ["places", "values", "firsts", "rows", "at"] ["places", "values"] (defScope (top 28)) := ⟨rfl, rfl, rfl, by decide +kernel, rfl, by decide +kernel, by decide +kernel⟩
def sp_rows_through : L2.Sp := fun vs H Q _ => ∃ (x y : V) (ps : Sp.Bytes) (rows : List Sp.Bytes) (L : Nat), vs = [x, y] ∧ IsB H x ps ∧ IsR H y rows ∧ rows.length = ps.length ∧ 0 < ps.length ∧ ps.length ≤ 9 ∧ Apart ps ∧ (∀ r ∈ rows, r.length = L) ∧ L ≤ 65536 ∧
  ∀ H' v, Same H H' → IsR H' v (throughR (fun i => ps.getD i 0) (fun i => rows.getD i []) ps.length) → Q v H'
theorem ok_rows_through {f : Addr} {fd : FuncData} (F : Fun K "rows_through" "rows_through" (top 28) f fd) (B : Bi mg) (g_plus : Gd P w K mg base 1 "plus" ["row", "other"] sp_plus) (g_with_root : Gd P w K mg base 2 "with_root" ["place", "rows"] sp_with_root)
    (g_divided_differences : Gd P w K mg base 2 "divided_differences" ["places", "values"] sp_divided_differences) :
    FnOk P w K mg base CX0 3 f fd ["places", "values"] sp_rows_through := by
  refine F.ok sc_rows_through (fun vs H Q E h => ?_) (fun cdv A outer s H vs Q E hr h => ?_)
  · obtain ⟨x, y, ps, rows, L, rfl, _⟩ := h
    rfl
  · obtain ⟨x, y, ps, rows, L, rfl, ⟨p, rfl, hp⟩, ⟨q, vs, rfl, hq, hv⟩, hm, h0, h9, hA, hL, hL2, k⟩ := h
    have hvl : ∀ i, i < ps.length → (rows.getD i []).length = L := fun i hi => hL _ (getD_mem' (by omega))
    have hdl : ∀ g, g < ps.length → (ddR (fun i => ps.getD i 0) (fun i => rows.getD i []) g 0).length = L := fun g hg => Rw.ddR_len hvl g 0 (by omega)
    have hhl := fun j hj => (Rw.hornerR_all (p := fun i => ps.getD i 0) (f := fun g => ddR (fun i => ps.getD i 0) (fun i => rows.getD i []) g 0) hdl h0 j hj).1
    refine ⟨_, (pss_cons (ps_set (i := 2) sc_rows_through.nd rfl (Or.inl rfl) (pe_g g_divided_differences (hr.mono (by decide)) rfl (pa_cons (pv 0) (pa_cons (pv 1) pa_nil))))
      (pss_cons (ps_set (i := 3) sc_rows_through.nd rfl (Or.inl rfl) (pe_lst (pa_cons (pe_ix ix_list (pv 2) (pe_un un_neg pe_int) (fun _ _ => rfl)) pa_nil)))
      (pss_cons (ps_for PassesOwn.never rfl (pi_range3 rfl B.range (pa_cons (pe_op op_sub (pe_callB call_len_seq rfl B.len PySem.boot_len (pa_cons (pv 0) pa_nil)) pe_int) (pa_cons (pe_un un_neg pe_int) (pa_cons (pe_un un_neg pe_int) pa_nil)))) (pg_name (i := 4) sc_rows_through.nd rfl (Or.inl rfl)) (pss_cons (ps_set (i := 3) sc_rows_through.nd rfl (Or.inl rfl) (pe_g g_with_root (hr.mono (by decide)) rfl (pa_cons (pe_ix ix_list (pv 0) (pv 4) (fun _ _ => rfl)) (pa_cons (pv 3) pa_nil))))
      (pss_one (ps_asg (pe_g g_plus (hr.mono (by decide)) rfl (pa_cons (pe_ix ix_list (pv 3) pe_int (fun _ _ => rfl)) (pa_cons (pe_ix ix_list (pv 2) (pv 4) (fun _ _ => rfl)) pa_nil))) (pg_sub (pv 3) pe_int set_list)))))
      (pss_one (ps_ret (pv 3)))))), ?_⟩
    refine ⟨_, rfl, _, rfl, _, _, ps, rows, L, rfl, ⟨p, rfl, hp⟩, ⟨q, vs, rfl, hq, hv⟩, hm, h0, h9, hA, hL, hL2, fun H1 fa s1 hfa => ?_⟩
    obtain ⟨fvs, al, hf1, hf2, hf3⟩ := hfa.get (j := ps.length - 1) (by omega)
    have hfl : fvs.length = ps.length := by
      obtain ⟨lvs, h1, h2, _⟩ := hfa
      rw [h1] at hf1
      cases hf1
      exact h2
    refine ⟨_, rfl, _, rfl, fa, _, _, V.ref al, rfl, rfl, SqL.of hf1, at_last (by rw [hfl]; exact hf2), z1L, fun l hl => ?_⟩
    have s2 : Same H1 (upd H1 l (.lst [V.ref al])) := .new hl
    refine ⟨_, rfl, p, _, rfl, .inl (SqL.of (s2 _ _ (s1 _ _ hp))), _, _, rfl, rfl, _, rfl, _, rfl, _, _, _, _, rfl, RgC.neg (by omega) (by rw [bvs_len]; omega) (by decide) (by decide), ?_⟩
    rw [bvs_len, show (((ps.length : Nat) : Int) - 2 - (-1)).toNat = ps.length - 1 by omega]
    refine for_rangeC (fun i σ H2 => ∃ ra rvs rg, σ = [some (V.ref p), some (V.ref q), some (V.ref fa), some (V.ref ra), rg] ∧ Same H H2 ∧ H ra = none ∧ H2 ra = some (.lst rvs) ∧
      AllB (hid ra H2) rvs (hornerR (fun i => ps.getD i 0) (fun g => ddR (fun i => ps.getD i 0) (fun i => rows.getD i []) g 0) ps.length i) ∧
      RowsAt (hid ra H2) fa ps.length (fun g => ddR (fun i => ps.getD i 0) (fun i => rows.getD i []) g 0) (hid ra H2)) ?_ ?_ ?_
    · have sh : Same H1 (hid l (upd H1 l (.lst [V.ref al]))) := s2.hid hl
      exact ⟨l, _, none, rfl, s1.trans s2, s1.free hl, upd_same, AllB.one (sh _ _ hf3), hfa.mono sh sh⟩
    · rintro i σ H2 hi ⟨ra, rvs, rg, rfl, s3, nra, hra, hrows, hfs⟩
      have e1 : ((ps.length : Int) - 2 + (i : Int) * (-1)) = ((ps.length - 1 - (i + 1) : Nat) : Int) := by omega
      have hlt : ps.length - 1 - (i + 1) < ps.length := by omega
      have hrl := hhl i (by omega)
      have hrn := hornerR_len (fun i => ps.getD i 0) (fun g => ddR (fun i => ps.getD i 0) (fun i => rows.getD i []) g 0) ps.length i
      refine ⟨_, rfl, _, rfl, p, _, _, bv (ps.getD (ps.length - 1 - (i + 1)) 0), rfl, rfl, SqL.of (s3 _ _ hp), at_of e1 (bvs_at hlt), _, rfl, ?_⟩
      refine ⟨_, _, _, L, rfl, ⟨ra, rvs, rfl, hra, hrows.mono (hid_same _ _)⟩, by rw [hrn]; omega, by rw [hrn]; omega, hrl, hL2, fun H3 a3 ws s4 n3 e3 q3 => ?_⟩
      have sh : Same H2 (hid a3 H3) := s4.hid n3
      have hfs' := hfs.mono (fun b o e => sh _ _ (hid_same _ _ _ _ e)) (fun b o e => sh _ _ (hid_same _ _ _ _ e))
      obtain ⟨fvs', af, g1, g2, g3⟩ := hfs'.get hlt
      have hwl := wrR_len (ps.getD (ps.length - 1 - (i + 1)) 0) (rows := hornerR (fun i => ps.getD i 0) (fun g => ddR (fun i => ps.getD i 0) (fun i => rows.getD i []) g 0) ps.length i) (by rw [hrn]; omega)
      obtain ⟨p0, e0, hp0⟩ := q3.get (i := 0) (by rw [hwl]; omega)
      refine ⟨_, rfl, a3, _, _, _, rfl, rfl, SqL.of e3, atI_nat (j := 0) e0, _, rfl, _, rfl, fa, _, _, _, rfl, rfl, SqL.of (hid_same _ _ _ _ g1), at_of e1 g2, ?_⟩
      have hw0 := (Rw.wrR_all (q := ps.getD (ps.length - 1 - (i + 1)) 0) hrl).1 _ (getD_mem' (i := 0) (by rw [hwl]; omega))
      refine ⟨_, _, _, _, rfl, ⟨p0, rfl, hid_same _ _ _ _ hp0⟩, ⟨af, rfl, hid_same _ _ _ _ g3⟩, by rw [hw0]; exact hL2, fun H4 a4 s5 n4 e4 => ?_⟩
      have w0 : ws.length ≠ 0 := by rw [q3.1, hwl]; omega
      refine ⟨_, rfl, a3, _, _, 0, rfl, rfl, s5 _ _ e3, ?_, ?_⟩
      · unfold ixN
        rw [if_pos (by decide), if_pos (by omega)]
        rfl
      have ne : a4 ≠ a3 := fun c => by rw [c, e3] at n4; cases n4
      have s34 : Same H H4 := (s3.trans s4).trans s5
      have s5h : Same (hid a3 H3) (hid a3 H4) := hid_mono s5
      refine ⟨a3, _, _, rfl, s34.upd (s3.free n3), s3.free n3, upd_same, ?_, ?_⟩
      · rw [hid_upd]
        exact AllB.set0 (q3.mono s5h) (hid_at e4 ne) _ rfl
      · rw [hid_upd]
        exact hfs'.mono s5h s5h
    · rintro σ H2 ⟨ra, rvs, rg, rfl, s3, nra, hra, hrows, hfs⟩
      exact ⟨_, rfl, k H2 _ s3 ⟨ra, rvs, rfl, hra, hrows.mono (hid_same _ _)⟩⟩
end
end Sn
end
section
set_option maxHeartbeats 4000000
namespace Sn
open PySem PySem.Spec PyProof.Rows L2
open Rw (vAt)
open Tld (Ok)
section
variable {P : Program} {w : World} {K : PySem.W.Frag} {mg : Str → Option Value} {base : Heap} {C : Addr}
theorem min_int (i j : Nat) : (if (0 + (j : Int)) < 0 + (i : Int) then 0 + (j : Int) else 0 + (i : Int)) = ((min i j : Nat) : Int) := by split <;> omega
theorem max_int (i j : Nat) : (if (0 + (j : Int)) > 0 + (i : Int) then 0 + (j : Int) else 0 + (i : Int)) = ((max i j : Nat) : Int) := by split <;> omega
theorem bvs_app (a b : Sp.Bytes) : bvs a ++ bvs b = bvs (a ++ b) := by unfold bvs; rw [List.map_append]
theorem range_flat (F : Nat → Sp.Bytes) (j : Nat) : ((List.range (j + 1)).map F).flatten = ((List.range j).map F).flatten ++ F j := by
  rw [List.range_succ, List.map_append, List.flatten_append]
  simp
theorem range_flat_len {F : Nat → Sp.Bytes} {L : Nat} : ∀ {j : Nat}, (∀ i, i < j → (F i).length = L) → (((List.range j).map F).flatten).length = j * L
  | 0, _ => by simp
  | j + 1, h => by rw [range_flat, List.length_append, range_flat_len fun i hi => h i (by omega), h j (by omega), Nat.add_mul, Nat.one_mul]
theorem holds_le {c : Sp.Code} (o : Ok c) : c.holds ≤ 36 := by
  unfold Sp.Code.holds
  have h1 : c.k * c.d ≤ 6 * 6 := Nat.mul_le_mul (Nat.le_trans o.kd o.d6) o.d6
  omega
theorem holds_len_le {c : Sp.Code} (o : Ok c) : c.holds * c.len ≤ 2304 := Nat.le_trans (Nat.mul_le_mul (holds_le o) o.l64) (by decide)
theorem d_len_le {c : Sp.Code} (o : Ok c) : c.d * c.len ≤ 384 := Nat.le_trans (Nat.mul_le_mul o.d6 o.l64) (by decide)
theorem k_len_le {c : Sp.Code} (o : Ok c) : c.k * c.len ≤ 384 := Nat.le_trans (Nat.mul_le_mul (Nat.le_trans o.kd o.d6) o.l64) (by decide)
theorem sc_square_of : FnScope ["code", "document", "entries", "square", "i", "row", "j", "low"] ["code", "document"] (defScope (top 30)) := ⟨rfl, rfl, rfl, by decide +kernel, rfl, by decide +kernel, by decide +kernel⟩
def sp_square_of (C : Addr) : L2.Sp := fun vs H Q _ => ∃ (x y : V) (c : Sp.Code) (b : Sp.Bytes), vs = [x, y] ∧ IsCode C H x c ∧ IsB H y b ∧ Ok c ∧ b.length = c.holds * c.len ∧
  ∀ H' v, Same H H' → IsR H' v (Tld.square c (Sp.rowsOf c.len c.holds b)) → Q v H'
theorem ok_square_of {f : Addr} {fd : FuncData} (F : Fun K "square_of" "square_of" (top 30) f fd) (B : Bi mg) (T : Cc K C) (g_cut : Gd P w K mg base 1 "cut" ["row", "length"] sp_cut) (g_rows_above : Gd P w K mg base 1 "rows_above" ["code", "i"] (sp_rows_above C)) :
    FnOk P w K mg base CX0 2 f fd ["code", "document"] (sp_square_of C) := by
  refine F.ok sc_square_of (fun vs H Q E h => ?_) (fun cdv A outer s H vs Q E hr h => ?_)
  · obtain ⟨x, y, c, b, rfl, _⟩ := h
    rfl
  · obtain ⟨x, y, c, b, rfl, ⟨p, dx, rfl, hp⟩, ⟨q, rfl, hq⟩, o, hb, k⟩ := h
    have hl2 := holds_len_le o
    have hdl := d_len_le o
    have l1 := o.l1
    have l64 := o.l64
    have d6 := o.d6
    have hX := Rw.rowsOf_shape (L := c.len) (n := c.holds) hb
    have hel : ∀ i j, i < c.d → j < c.d → (c.entry (Sp.rowsOf c.len c.holds b) i j).length = c.len := fun i j hi hj => Tld.entry_len o.kd hX hi hj
    refine ⟨_, (pss_cons (ps_set (i := 2) sc_square_of.nd rfl (Or.inl rfl) (pe_g g_cut (hr.mono (by decide)) rfl (pa_cons (pv 1) (pa_cons (pe_fld (pv 0) rfl) pa_nil))))
      (pss_cons (ps_set (i := 3) sc_square_of.nd rfl (Or.inl rfl) (pe_lst pa_nil))
      (pss_cons (ps_for PassesOwn.never rfl (pi_range1 rfl B.range (pa_cons (pe_fld (pv 0) rfl) pa_nil)) (pg_name (i := 4) sc_square_of.nd rfl (Or.inl rfl)) (pss_cons (ps_set (i := 5) sc_square_of.nd rfl (Or.inl rfl) (pe_lst pa_nil))
      (pss_cons (ps_for PassesOwn.never rfl (pi_range1 rfl B.range (pa_cons (pe_fld (pv 0) rfl) pa_nil)) (pg_name (i := 6) sc_square_of.nd rfl (Or.inl rfl)) (pss_cons (ps_set (i := 7) sc_square_of.nd rfl (Or.inl rfl) (pe_callB (call_min2 rfl) rfl B.min boot_min (pa_cons (pv 4) (pa_cons (pv 6) pa_nil))))
      (pss_one (ps_if (pt_cmpR op_lt (pv 7) (pe_fld (pv 0) rfl) (nomark _)) (pss_one (ps_expr (pe_bm PySem.F.plainAttrs_list PySem.F.slot_list_extend PySem.F.type_list_extend mt_extend (pv 5) (pa_cons (pe_ix ix_list (pv 2) (pe_op op_sub (pe_op op_add (pe_g g_rows_above (hr.mono (by decide)) rfl (pa_cons (pv 0) (pa_cons (pv 7) pa_nil))) (pe_callB (call_max2 rfl) rfl B.max boot_max (pa_cons (pv 4) (pa_cons (pv 6) pa_nil)))) (pv 7)) (fun _ _ => rfl)) pa_nil)))) (pss_one (ps_expr (pe_bm PySem.F.plainAttrs_list PySem.F.slot_list_extend PySem.F.type_list_extend mt_extend (pv 5) (pa_cons (pe_op op_rep (pe_lst (pa_cons pe_int pa_nil)) (pe_fld (pv 0) rfl)) pa_nil))))))))
      (pss_one (ps_expr (pe_bm PySem.F.plainAttrs_list PySem.F.slot_list_append PySem.F.type_list_append mt_append (pv 3) (pa_cons (pv 5) pa_nil)))))))
      (pss_one (ps_ret (pv 3)))))), ?_⟩
    refine ⟨_, rfl, _, rfl, p, C, dx, _, _, rfl, hp, T.cl, T.nw, codeF_w c, ?_⟩
    refine ⟨_, b, c.len, c.holds, rfl, ⟨q, rfl, hq⟩, l1, by omega, hb, by omega, fun H1 v s1 hR => ?_⟩
    obtain ⟨ea, evs, rfl, hea, hev⟩ := hR.mono (nw_same _ _)
    refine ⟨z0L, fun sq hsq => ?_⟩
    have s2 : Same H1 (upd H1 sq (.lst [])) := .new hsq
    refine ⟨_, rfl, p, C, dx, _, _, rfl, s2 _ _ (s1 _ _ hp), T.cl, T.nd, codeF_d c, _, rfl, by omega, by omega, ?_⟩
    refine for_range (n := c.d) (fun i σ H2 => ∃ r4 r5 r6 r7, σ = [some (V.ref p), some (V.ref q), some (V.ref ea), some (V.ref sq), r4, r5, r6, r7] ∧ Acc H1 sq (RowNew H1 fun i => ((List.range c.d).map fun j => c.entry (Sp.rowsOf c.len c.holds b) i j).flatten) i H2) ?_ ?_ ?_
    · exact ⟨none, none, none, none, rfl, Acc.start hsq⟩
    · rintro i σ H2 hi ⟨r4, r5, r6, r7, rfl, z⟩
      refine ⟨z0L, fun ra hra => ?_⟩
      have s3 : Same H2 (upd H2 ra (.lst [])) := .new hra
      have hpz := fun (H' : Hp) (s : Same H2 H') => s _ _ (z.same _ _ (s1 _ _ hp))
      refine ⟨_, rfl, p, C, dx, _, _, rfl, hpz _ s3, T.cl, T.nd, codeF_d c, _, rfl, by omega, by omega, ?_⟩
      refine for_range (n := c.d) (fun j σ H3 => ∃ r6 r7, σ = [some (V.ref p), some (V.ref q), some (V.ref ea), some (V.ref sq), some (V.int (0 + (i : Nat))), some (V.ref ra), r6, r7] ∧ Same H2 H3 ∧ H3 ra = some (.lst (bvs ((List.range j).map fun j => c.entry (Sp.rowsOf c.len c.holds b) i j).flatten))) ?_ ?_ ?_
      · exact ⟨_, _, rfl, s3, upd_same⟩
      · rintro j σ H3 hj ⟨r6, r7, rfl, s4, hra3⟩
        have hfl := range_flat_len (F := fun j => c.entry (Sp.rowsOf c.len c.holds b) i j) (L := c.len) (j := j) fun j' hj' => hel i j' hi (by omega)
        have hjl : j * c.len ≤ 384 := Nat.le_trans (Nat.mul_le_mul (by omega) l64) (show 6 * 64 ≤ 384 by decide)
        refine ⟨_, rfl, _, rfl, _, _, rfl, ?_⟩
        rw [min_int]
        refine ⟨_, rfl, _, rfl, p, C, dx, _, _, rfl, hpz _ s4, T.cl, T.nk, codeF_k c, _, _, rfl, rfl, _, rfl, ?_⟩
        refine ite2 (fun h => ?_) (fun h => ?_)
        · have h := of_decide_eq_true h
          have hk : min i j < c.k := by omega
          have hw : c.which (min i j) (max i j) < c.holds := Tld.which_lt o.kd (by omega) hk (by omega)
          obtain ⟨pe, ee, hpe⟩ := hev.get (i := c.which (min i j) (max i j)) (by rw [hX.1]; exact hw)
          refine ⟨_, rfl, .inl ⟨rfl, _, SqL.of hra3⟩, _, rfl, _, rfl, _, rfl, ?_⟩
          refine ⟨_, c, min i j, rfl, ⟨p, dx, rfl, hpz _ s4⟩, by omega, d6, ?_⟩
          refine ⟨_, rfl, _, rfl, _, _, rfl, ?_⟩
          rw [max_int]
          refine ⟨_, _, rfl, rfl, _, rfl, _, _, rfl, rfl, ea, _, _, _, rfl, rfl, SqL.of (s4 _ _ (z.same _ _ hea)), at_of (j := c.which (min i j) (max i j)) ?_ ee, ?_⟩
          · rw [Tld.which_eq]
            omega
          have hee : (c.entry (Sp.rowsOf c.len c.holds b) i j) = (Sp.rowsOf c.len c.holds b).getD (c.which (min i j) (max i j)) [] := by
            unfold Sp.Code.entry
            rw [if_neg (by omega)]
          refine ⟨ra, pe, _, _, rfl, rfl, hra3, s4 _ _ (z.same _ _ hpe), ?_, ?_⟩
          · rw [bvs_len, bvs_len, hfl, ← hee, hel i j hi hj]
            show _ ≤ 2 ^ 24
            omega
          · refine ⟨_, _, rfl, s4.upd hra, ?_⟩
            rw [upd_same, bvs_app, range_flat, hee]
        · have hk : c.k ≤ min i j := by
            have : ¬ ((min i j : Nat) : Int) < (c.k : Int) := fun z => h (decide_eq_true z)
            omega
          refine ⟨_, rfl, .inl ⟨rfl, _, SqL.of hra3⟩, z1L, fun l hl => ?_⟩
          have s5 : Same H3 (upd H3 l (.lst [V.int 0])) := .new hl
          refine ⟨_, rfl, p, C, dx, _, _, rfl, hpz _ (s4.trans s5), T.cl, T.nw, codeF_w c, l, _, _, rfl, rfl, upd_same, by omega, by omega, by show 1 * _ ≤ 2 ^ 24; omega, fun q2 hq2 => ?_⟩
          have s6 : Same (upd H3 l (.lst [V.int 0])) (upd (upd H3 l (.lst [V.int 0])) q2 (.lst (List.replicate (((c.len : Nat) : Int)).toNat [V.int 0]).flatten)) := .new hq2
          have hee : (c.entry (Sp.rowsOf c.len c.holds b) i j) = Sp.noughts c.len := by
            unfold Sp.Code.entry
            rw [if_pos hk]
          refine ⟨ra, q2, _, _, rfl, rfl, (s5.trans s6) _ _ hra3, upd_same, ?_, ?_⟩
          · rw [rep_noughts, bvs_len, bvs_len, hfl, Rw.noughts_len]
            show _ + ((c.len : Nat) : Int).toNat ≤ 2 ^ 24
            omega
          · refine ⟨_, _, rfl, ((s4.trans s5).trans s6).upd hra, ?_⟩
            rw [upd_same, rep_noughts, bvs_app, range_flat, hee]
            rfl
      · rintro σ H3 ⟨r6, r7, rfl, s4, hra3⟩
        obtain ⟨acc, a1, a2, a3⟩ := acc_pushR hsq z s4 hra hra3 (by omega)
        exact ⟨_, rfl, .inl ⟨rfl, _, SqL.of a1⟩, _, rfl, sq, _, _, rfl, rfl, a1, a2, _, _, _, _, rfl, a3⟩
    · rintro σ H2 ⟨r4, r5, r6, r7, rfl, z⟩
      exact ⟨_, rfl, k H2 _ (s1.trans z.same) ((acc_isR hsq z).mono (nw_same _ _))⟩
theorem sc_rows_of_node : FnScope ["square", "node"] ["square", "node"] (defScope (top 31)) := ⟨rfl, rfl, rfl, by decide +kernel, rfl, by decide +kernel, by decide +kernel⟩
def sp_rows_of_node : L2.Sp := fun vs H Q _ => ∃ (y : V) (rows : List Sp.Bytes) (n L : Nat), vs = [y, nv n] ∧ IsR H y rows ∧ 0 < rows.length ∧ (∀ r ∈ rows, r.length = L) ∧ L ≤ 65536 ∧ n < 255 ∧ RB H Q (vAt L (Sp.place n) rows)
theorem ok_rows_of_node {f : Addr} {fd : FuncData} (F : Fun K "rows_of_node" "rows_of_node" (top 31) f fd) (g_place_of : Gd P w K mg base 1 "place_of" ["node"] sp_place_of) (g_value_at : Gd P w K mg base 2 "value_at" ["place", "rows"] sp_value_at) :
    FnOk P w K mg base CX0 3 f fd ["square", "node"] sp_rows_of_node := by
  refine F.ok sc_rows_of_node (fun vs H Q E h => ?_) (fun cdv A outer s H vs Q E hr h => ?_)
  · obtain ⟨y, rows, n, L, rfl, _⟩ := h
    rfl
  · obtain ⟨y, rows, n, L, rfl, hR, h0, hL, hL2, hn, k⟩ := h
    refine ⟨_, (pss_one (ps_ret (pe_g g_value_at (hr.mono (by decide)) rfl (pa_cons (pe_g g_place_of (hr.mono (by decide)) rfl (pa_cons (pv 1) pa_nil)) (pa_cons (pv 0) pa_nil))))), ?_⟩
    exact ⟨_, rfl, n, rfl, hn, _, rfl, _, _, rows, L, rfl, hR, h0, hL, hL2, k⟩
end
end Sn
end
section
set_option maxHeartbeats 4000000
namespace Sn
open PySem PySem.Spec PyProof.Rows L2
open Rw (vAt throughR)
open Tld (Ok)
section
variable {P : Program} {w : World} {K : PySem.W.Frag} {mg : Str → Option Value} {base : Heap} {C : Addr}
theorem nw_hid2 {H H1 H2 : Hp} {D : Addr} {o : HO} (s : Same H H1) (h : H1 D = some o) : Same (nw H1 H2) (nw H (hid D H2)) := fun b u e => by
  obtain ⟨h1, h2⟩ := nw_of e
  exact nw_at (s.free h1) (hid_at h2 fun c => by rw [c, h] at h1; cases h1)
theorem lower_range {c : Sp.Code} (kd : c.k ≤ c.d) (R : List Sp.Bytes) : Tld.lower c R = (List.range c.d).map fun j => if j < c.k then Sp.noughts (c.k * c.len) else ((List.range c.k).map fun j' => Sp.part (R.getD j' []) (c.len * (j - c.k)) c.len).flatten := by
  unfold Tld.lower
  refine List.ext_getElem (by simp; omega) fun i h1 h2 => ?_
  have h3 : i < c.d := by simpa using h2
  rw [List.getElem_map, List.getElem_range]
  by_cases hi : i < c.k
  · rw [if_pos hi, List.getElem_append_left (by simpa using hi), List.getElem_replicate]
  · rw [if_neg hi, List.getElem_append_right (by simp; omega), List.getElem_map, List.getElem_range, List.length_replicate]
theorem mul_nat (a b : Nat) : (a : Int) * (b : Int) = ((a * b : Nat) : Int) := (Int.natCast_mul a b).symm
theorem mul_nat0 (a b : Nat) : (0 + (a : Int)) * (b : Int) = ((a * b : Nat) : Int) := by rw [Int.zero_add, mul_nat]
theorem sc_lower_left : FnScope ["code", "right", "entries", "rows", "at", "row", "j", "i"] ["code", "right"] (defScope (top 32)) := ⟨rfl, rfl, rfl, by decide +kernel, rfl, by decide +kernel, by decide +kernel⟩
def sp_lower_left (C : Addr) : L2.Sp := fun vs H Q _ => ∃ (x y : V) (c : Sp.Code) (R : List Sp.Bytes), vs = [x, y] ∧ IsCode C H x c ∧ IsR H y R ∧ Ok c ∧ R.length = c.k ∧ (∀ r ∈ R, r.length = (c.d - c.k) * c.len) ∧
  ∀ H' v, Same H H' → IsR H' v (Tld.lower c R) → Q v H'
theorem ok_lower_left {f : Addr} {fd : FuncData} (F : Fun K "lower_left" "lower_left" (top 32) f fd) (B : Bi mg) (T : Cc K C) (g_cut : Gd P w K mg base 1 "cut" ["row", "length"] sp_cut) :
    FnOk P w K mg base CX0 2 f fd ["code", "right"] (sp_lower_left C) := by
  refine F.ok sc_lower_left (fun vs H Q E h => ?_) (fun cdv A outer s H vs Q E hr h => ?_)
  · obtain ⟨x, y, c, R, rfl, _⟩ := h
    rfl
  · obtain ⟨x, y, c, R, rfl, ⟨p, dx, rfl, hp⟩, ⟨q, qvs, rfl, hq, hqv⟩, o, hRl, hRr, k⟩ := h
    have hdl := d_len_le o
    have hkl := k_len_le o
    have l1 := o.l1
    have l64 := o.l64
    have d6 := o.d6
    have kd := o.kd
    have hrl : ∀ i, i < c.k → (R.getD i []).length = (c.d - c.k) * c.len := fun i hi => hRr _ (getD_mem' (by omega))
    have hdk : (c.d - c.k) * c.len ≤ 384 := Nat.le_trans (Nat.mul_le_mul_right _ (Nat.sub_le _ _)) hdl
    refine ⟨_, (pss_cons (ps_setLc (g := (gName 5)) (te := (tCall sp_cut [] E0 (tCons (tVar 5) (tCons (tFld K (tVar 0) "width") tNil)))) (own := [("row", 5)]) (i := 2) rfl sc_lower_left.nd rfl rfl rfl (pi_list (pv 1)) (blkOk_by (by rfl)) (fun s H C cl fp => (pg_name (i := 5) sc_lower_left.nd rfl (Or.inl rfl) (Or.inr rfl))) (fun s H C cl fp => pts_nil) (fun s H C cl fp => (pe_g g_cut (hr.mono (by decide)) rfl (pa_cons (pv 5) (pa_cons (pe_fld (pv 0) rfl) pa_nil)))))
      (pss_cons (ps_setLc (g := (gName 7)) (te := (tOp rRep (tLst (tCons (tC (.int 0)) tNil)) (tOp (rI CMul fun i j => .int (i * j)) (tFld K (tVar 0) "k") (tFld K (tVar 0) "width")))) (own := [("i", 7)]) (i := 3) rfl sc_lower_left.nd rfl rfl rfl (pi_range1 rfl B.range (pa_cons (pe_fld (pv 0) rfl) pa_nil)) (blkOk_by (by rfl)) (fun s H C cl fp => (pg_name (i := 7) sc_lower_left.nd rfl (Or.inl rfl) (Or.inr rfl))) (fun s H C cl fp => pts_nil) (fun s H C cl fp => (pe_op op_rep (pe_lst (pa_cons pe_int pa_nil)) (pe_op op_mul (pe_fld (pv 0) rfl) (pe_fld (pv 0) rfl)))))
      (pss_cons (ps_for PassesOwn.never rfl (pi_range1 rfl B.range (pa_cons (pe_op op_sub (pe_fld (pv 0) rfl) (pe_fld (pv 0) rfl)) pa_nil)) (pg_name (i := 4) sc_lower_left.nd rfl (Or.inl rfl)) (pss_cons (ps_set (i := 5) sc_lower_left.nd rfl (Or.inl rfl) (pe_lst pa_nil))
      (pss_cons (ps_for PassesOwn.never rfl (pi_range1 rfl B.range (pa_cons (pe_fld (pv 0) rfl) pa_nil)) (pg_name (i := 6) sc_lower_left.nd rfl (Or.inl rfl)) (pss_one (ps_expr (pe_bm PySem.F.plainAttrs_list PySem.F.slot_list_extend PySem.F.type_list_extend mt_extend (pv 5) (pa_cons (pe_ix ix_list (pe_ix ix_list (pv 2) (pv 6) (fun _ _ => rfl)) (pv 4) (fun _ _ => rfl)) pa_nil)))))
      (pss_one (ps_expr (pe_bm PySem.F.plainAttrs_list PySem.F.slot_list_append PySem.F.type_list_append mt_append (pv 3) (pa_cons (pv 5) pa_nil)))))))
      (pss_one (ps_ret (pv 3)))))), ?_⟩
    refine ⟨_, rfl, q, rfl, ⟨_, SqL.of hq⟩, fun D hD => ?_⟩
    refine lc_list (xs := qvs) (Acc H D fun j y G => IsR (nw H G) y (Sp.rowsOf c.len (c.d - c.k) (R.getD j []))) (Acc.start hD) (fun i H1 _ z => SqL.of (z.same _ _ hq)) (fun i x H1 e1 z => ?_) (fun H1 z => ?_)
    · obtain ⟨hi, px, rfl, hpx⟩ := hqv.of e1
      refine ⟨rfl, _, rfl, _, rfl, p, C, dx, _, _, rfl, z.same _ _ hp, T.cl, T.nw, codeF_w c, ?_⟩
      have e2 := hrl i (by omega)
      refine ⟨_, _, c.len, c.d - c.k, rfl, ⟨px, rfl, z.same _ _ hpx⟩, l1, by omega, e2, by omega, fun H2 v s2 hR => ?_⟩
      obtain ⟨ys, g1, _⟩ := z.ex
      exact Acc.push (fun _ _ _ _ s h => h.mono (nw_mono s)) hD z s2 (hR.mono (nw_hid2 z.same g1)) (by omega)
    obtain ⟨es, hes, el, hev⟩ := z.ex
    have s1 := z.same
    have hent : ∀ i, i < c.k → ∃ a avs, es[i]? = some (.ref a) ∧ H1 a = some (.lst avs) ∧ AllB H1 avs (Sp.rowsOf c.len (c.d - c.k) (R.getD i [])) := fun i hi => by
      have h1 : i < es.length := by rw [el, hqv.1, hRl]; exact hi
      obtain ⟨a, avs, e1, e2, e3⟩ := (hev i es[i] (List.getElem?_eq_getElem h1)).mono (nw_same _ _)
      exact ⟨a, avs, by rw [List.getElem?_eq_getElem h1, e1], hid_same _ _ _ _ e2, e3.mono (hid_same _ _)⟩
    refine ⟨_, rfl, p, C, dx, _, _, rfl, s1 _ _ hp, T.cl, T.nk, codeF_k c, _, rfl, by omega, by omega, fun D2 hD2 => ?_⟩
    refine lc_range (n := c.k) (Acc H1 D2 (RowNew H1 fun j => if j < c.k then Sp.noughts (c.k * c.len) else ((List.range c.k).map fun j' => Sp.part (R.getD j' []) (c.len * (j - c.k)) c.len).flatten)) (Acc.start hD2) (fun j H2 hj z2 => ?_) (fun H2 z2 => ?_)
    · have hpz := fun (H' : Hp) (s : Same H2 H') => s _ _ (z2.same _ _ (s1 _ _ hp))
      refine ⟨rfl, z1L, fun l hl => ?_⟩
      have s5 : Same H2 (upd H2 l (.lst [V.int 0])) := .new hl
      refine ⟨_, rfl, p, C, dx, _, _, rfl, hpz _ s5, T.cl, T.nk, codeF_k c, _, rfl, p, C, dx, _, _, rfl, hpz _ s5, T.cl, T.nw, codeF_w c, _, _, rfl, rfl, .inr ⟨by omega, by omega⟩, ?_⟩
      dsimp only
      rw [mul_nat]
      refine ⟨l, _, _, rfl, rfl, upd_same, by omega, by omega, by show 1 * _ ≤ 2 ^ 24; omega, fun q2 hq2 => ?_⟩
      refine acc_pushR' hD2 z2 s5 (.new hq2) hq2 ?_ (by omega)
      rw [upd_same, if_pos hj, rep_noughts]
      rfl
    have s2 := z2.same
    refine ⟨_, rfl, p, C, dx, _, _, rfl, s2 _ _ (s1 _ _ hp), T.cl, T.nd, codeF_d c, _, rfl, p, C, dx, _, _, rfl, s2 _ _ (s1 _ _ hp), T.cl, T.nk, codeF_k c, _, _, rfl, rfl, _, rfl, by omega, by omega, ?_⟩
    rw [show ((c.d : Int) - (c.k : Int)).toNat = c.d - c.k by omega]
    refine for_range (n := c.d - c.k) (fun i σ H3 => ∃ r4 r5 r6 r7, σ = [some (V.ref p), some (V.ref q), some (V.ref D), some (V.ref D2), r4, r5, r6, r7] ∧ Acc H1 D2 (RowNew H1 fun j => if j < c.k then Sp.noughts (c.k * c.len) else ((List.range c.k).map fun j' => Sp.part (R.getD j' []) (c.len * (j - c.k)) c.len).flatten) (c.k + i) H3) ?_ ?_ ?_
    · exact ⟨_, _, _, _, rfl, z2⟩
    · rintro i σ H3 hi ⟨r4, r5, r6, r7, rfl, z3⟩
      refine ⟨z0L, fun ra hra => ?_⟩
      have s3 : Same H3 (upd H3 ra (.lst [])) := .new hra
      have hpz := fun (H' : Hp) (s : Same H3 H') => s _ _ (z3.same _ _ (s1 _ _ hp))
      refine ⟨_, rfl, p, C, dx, _, _, rfl, hpz _ s3, T.cl, T.nk, codeF_k c, _, rfl, by omega, by omega, ?_⟩
      have hpl : ∀ j, j < c.k → (Sp.part (R.getD j []) (c.len * i) c.len).length = c.len := fun j hj => by
        unfold Sp.part
        have h1 : c.len * (i + 1) ≤ (c.d - c.k) * c.len := by rw [Nat.mul_comm]; exact Nat.mul_le_mul_right _ (by omega)
        rw [Nat.mul_add, Nat.mul_one] at h1
        rw [List.length_take, List.length_drop, hrl j hj]
        omega
      refine for_range (n := c.k) (fun j σ H4 => ∃ r6, σ = [some (V.ref p), some (V.ref q), some (V.ref D), some (V.ref D2), some (V.int (0 + (i : Nat))), some (V.ref ra), r6, r7] ∧ Same H3 H4 ∧ H4 ra = some (.lst (bvs ((List.range j).map fun j => Sp.part (R.getD j []) (c.len * i) c.len).flatten))) ?_ ?_ ?_
      · exact ⟨_, rfl, s3, upd_same⟩
      · rintro j σ H4 hj ⟨r6, rfl, s4, hra3⟩
        have hfl := range_flat_len (F := fun j => Sp.part (R.getD j []) (c.len * i) c.len) (L := c.len) (j := j) fun j' hj' => hpl j' (by omega)
        have hjl : j * c.len ≤ 384 := Nat.le_trans (Nat.mul_le_mul (by omega) l64) (show 6 * 64 ≤ 384 by decide)
        obtain ⟨a, avs, x1, x2, x3⟩ := hent j hj
        obtain ⟨pe, ee, hpe⟩ := x3.get (i := i) (by unfold Sp.rowsOf; simpa using hi)
        have sw : Same H1 H4 := z3.same.trans s4
        have hee : (Sp.rowsOf c.len (c.d - c.k) (R.getD j [])).getD i [] = Sp.part (R.getD j []) (c.len * i) c.len := Rw.getD_range (fun i => Sp.part (R.getD j []) (c.len * i) c.len) [] hi
        rw [hee] at hpe
        refine ⟨_, rfl, .inl ⟨rfl, _, SqL.of hra3⟩, _, rfl, _, rfl, D, _, _, _, rfl, rfl, SqL.of (sw _ _ hes), at_of (by omega) x1, _, rfl, a, _, _, _, rfl, rfl, SqL.of (sw _ _ x2), at_of (by omega) ee, ?_⟩
        refine ⟨ra, pe, _, _, rfl, rfl, hra3, sw _ _ hpe, ?_, ?_⟩
        · rw [bvs_len, bvs_len, hfl, hpl j hj]
          show _ ≤ 2 ^ 24
          omega
        · refine ⟨_, rfl, s4.upd hra, ?_⟩
          rw [upd_same, bvs_app, range_flat]
      · rintro σ H4 ⟨r6, rfl, s4, hra3⟩
        obtain ⟨acc, a1, a2, a3⟩ := acc_pushR hD2 z3 s4 hra (by rw [hra3, if_neg (by omega), Nat.add_sub_cancel_left]) (by omega)
        exact ⟨_, rfl, .inl ⟨rfl, _, SqL.of a1⟩, _, rfl, D2, _, _, rfl, rfl, a1, a2, _, _, _, _, rfl, a3⟩
    · rintro σ H3 ⟨r4, r5, r6, r7, rfl, z3⟩
      refine ⟨_, rfl, k H3 _ (s1.trans z3.same) ?_⟩
      rw [lower_range kd]
      have := (acc_isR hD2 z3).mono (nw_same _ _)
      rw [show c.k + (c.d - c.k) = c.d by omega] at this
      exact this
end
end Sn
end
section
set_option maxHeartbeats 4000000
namespace Sn
open PySem PySem.Spec PyProof.Rows L2
open Rw (vAt throughR ddR hornerR)
open Tld (Ok likely rightOf leftOf lower)
open Gau (Shape)
theorem ddR_congr {p p' : Nat → UInt8} {v v' : Nat → Sp.Bytes} {m : Nat} (hp : ∀ i, i < m → p i = p' i) (hv : ∀ i, i < m → v i = v' i) : ∀ g a, a + g < m → ddR p v g a = ddR p' v' g a
  | 0, a, h => hv a (by omega)
  | g + 1, a, h => by
    show Sp.scale (Sp.inv8 (p a ^^^ p (a + (g + 1)))) (Sp.xor (ddR p v g a) (ddR p v g (a + 1))) = Sp.scale (Sp.inv8 (p' a ^^^ p' (a + (g + 1)))) (Sp.xor (ddR p' v' g a) (ddR p' v' g (a + 1)))
    rw [hp a (by omega), hp (a + (g + 1)) (by omega), ddR_congr hp hv g a (by omega), ddR_congr hp hv g (a + 1) (by omega)]
theorem hornerR_congr {p p' : Nat → UInt8} {f f' : Nat → Sp.Bytes} {m : Nat} (h0 : 0 < m) (hp : ∀ i, i < m → p i = p' i) (hf : ∀ i, i < m → f i = f' i) : ∀ j, hornerR p f m j = hornerR p' f' m j
  | 0 => by
    show [f (m - 1)] = [f' (m - 1)]
    rw [hf (m - 1) (by omega)]
  | j + 1 => by
    show Rw.addCR (f (m - 1 - (j + 1))) (Rw.wrR (p (m - 1 - (j + 1))) (hornerR p f m j)) = Rw.addCR (f' (m - 1 - (j + 1))) (Rw.wrR (p' (m - 1 - (j + 1))) (hornerR p' f' m j))
    rw [hf _ (by omega), hp _ (by omega), hornerR_congr h0 hp hf j]
theorem throughR_congr {p p' : Nat → UInt8} {v v' : Nat → Sp.Bytes} {m : Nat} (h0 : 0 < m) (hp : ∀ i, i < m → p i = p' i) (hv : ∀ i, i < m → v i = v' i) : throughR p v m = throughR p' v' m := by
  unfold throughR
  exact hornerR_congr h0 hp (fun i hi => ddR_congr hp hv i 0 (by omega)) (m - 1)
theorem right_congr {c : Sp.Code} (k1 : 1 ≤ c.k) {p p' : Nat → UInt8} {h h' : Nat → Sp.Bytes} (hp : ∀ i, i < c.k → p i = p' i) (hh : ∀ i, i < c.k → h i = h' i) : rightOf c p h = rightOf c p' h' := by
  unfold rightOf
  exact throughR_congr k1 hp fun i hi => by rw [hh i hi]
theorem left_congr {c : Sp.Code} (k1 : 1 ≤ c.k) {p p' : Nat → UInt8} {h h' : Nat → Sp.Bytes} (hp : ∀ i, i < c.k → p i = p' i) (hh : ∀ i, i < c.k → h i = h' i) : leftOf c p h = leftOf c p' h' := by
  unfold leftOf
  exact throughR_congr k1 hp fun i hi => by rw [hh i hi, hp i hi, right_congr k1 hp hh]
theorem likely_congr {c : Sp.Code} (k1 : 1 ≤ c.k) {p p' : Nat → UInt8} {h h' : Nat → Sp.Bytes} (hp : ∀ i, i < c.k → p i = p' i) (hh : ∀ i, i < c.k → h i = h' i) : likely c p h = likely c p' h' := by
  unfold likely
  rw [right_congr k1 hp hh, left_congr k1 hp hh]
section
variable {P : Program} {w : World} {K : PySem.W.Frag} {mg : Str → Option Value} {base : Heap} {C : Addr}
theorem places_apart {l : List Nat} (hn : l.Nodup) (h9 : ∀ f ∈ l, f < 9) {m : Nat} (hm : m ≤ l.length) : Apart ((List.range m).map fun j => Sp.place (l.getD j 0)) := fun i j hi hj hij => by
  have hi : i < m := by simpa using hi
  have hj : j < m := by simpa using hj
  rw [Rw.getD_range _ _ hi, Rw.getD_range _ _ hj]
  exact Tld.places_ne hn h9 hm i j hi hj hij
theorem take_len_le {b : Sp.Bytes} {n : Nat} : (b.take n).length ≤ n := by rw [List.length_take]; omega
theorem sc_likely_document : FnScope ["code", "nodes", "held", "places", "border", "right", "lower", "left", "document", "i", "node", "rows", "place"] ["code", "nodes", "held"] (defScope (top 33)) := ⟨rfl, rfl, rfl, by decide +kernel, rfl, by decide +kernel, by decide +kernel⟩
def sp_likely_document (C : Addr) : L2.Sp := fun vs H Q _ => ∃ (x y z : V) (c : Sp.Code) (l : List Nat) (held : List Sp.Bytes), vs = [x, y, z] ∧ IsCode C H x c ∧ IsN H y l ∧ IsR H z held ∧ Ok c ∧ l.length = c.k ∧ l.Nodup ∧ (∀ f ∈ l, f < 9) ∧ Shape c.k (c.d * c.len) held ∧
  RB H Q (likely c (fun a => Sp.place (l.getD a 0)) fun a => held.getD a [])
theorem ok_likely_document {f : Addr} {fd : FuncData} (F : Fun K "likely_document" "likely_document" (top 33) f fd) (B : Bi mg) (T : Cc K C) (g_place_of : Gd P w K mg base 1 "place_of" ["node"] sp_place_of) (g_value_at : Gd P w K mg base 2 "value_at" ["place", "rows"] sp_value_at)
    (g_rows_through : Gd P w K mg base 3 "rows_through" ["places", "values"] sp_rows_through) (g_lower_left : Gd P w K mg base 2 "lower_left" ["code", "right"] (sp_lower_left C)) (g_plus : Gd P w K mg base 1 "plus" ["row", "other"] sp_plus) :
    FnOk P w K mg base CX0 4 f fd ["code", "nodes", "held"] (sp_likely_document C) := by
  refine F.ok sc_likely_document (fun vs H Q E h => ?_) (fun cdv A outer s H vs Q E hr h => ?_)
  · obtain ⟨x, y, z, c, l, held, rfl, _⟩ := h
    rfl
  · obtain ⟨x, y, z, c, l, held, rfl, ⟨p, dx, rfl, hp⟩, ⟨q, rfl, hq⟩, ⟨za, hvs, rfl, hza, hhv⟩, o, hl, hn, h9, hS, k⟩ := h
    have hdl := d_len_le o
    have hkl := k_len_le o
    have l1 := o.l1
    have l64 := o.l64
    have d6 := o.d6
    have kd := o.kd
    have k1 := o.k1
    have hgl : ∀ i, i < c.k → (held.getD i []).length = c.d * c.len := fun i hi => Tld.getD_len hS hi
    have hRS := Tld.right_shape k1 kd (fun a => Sp.place (l.getD a 0)) (h := fun a => held.getD a []) hgl
    have hLS := Tld.left_shape k1 kd (fun a => Sp.place (l.getD a 0)) (h := fun a => held.getD a []) hgl
    have hWS := Tld.lower_len k1 kd hRS.2 hRS.1
    have hkd : c.k * c.len ≤ c.d * c.len := Nat.mul_le_mul_right _ kd
    have hdk : (c.d - c.k) * c.len = c.d * c.len - c.k * c.len := Nat.sub_mul _ _ _
    have hvl : hvs.length = c.k := by rw [hhv.1]; exact hS.1
    refine ⟨_, (pss_cons (ps_setLc (g := (gName 10)) (te := (tCall sp_place_of [] E0 (tCons (tVar 10) tNil))) (own := [("node", 10)]) (i := 3) rfl sc_likely_document.nd rfl rfl rfl (pi_list (pv 1)) (blkOk_by (by rfl)) (fun s H C cl fp => (pg_name (i := 10) sc_likely_document.nd rfl (Or.inl rfl) (Or.inr rfl))) (fun s H C cl fp => pts_nil) (fun s H C cl fp => (pe_g g_place_of (hr.mono (by decide)) rfl (pa_cons (pv 10) pa_nil))))
      (pss_cons (ps_set (i := 4) sc_likely_document.nd rfl (Or.inr rfl) (pe_op op_mul (pe_fld (pv 0) rfl) (pe_fld (pv 0) rfl)))
      (pss_cons (ps_set (i := 5) sc_likely_document.nd rfl (Or.inl rfl) (pe_g g_rows_through (hr.mono (by decide)) rfl (pa_cons (pv 3) (pa_cons (pe_lc (g := (gName 11)) (te := (tSl (rSlL K) (tVar 11) (tPart (tVar 4)) tNoPart)) (own := [("rows", 11)]) rfl sc_likely_document.nd (pi_list (pv 2)) (blkOk_by (by rfl)) (fun s H C cl fp => (pg_name (i := 11) sc_likely_document.nd rfl (Or.inl rfl) (Or.inr rfl))) (fun s H C cl fp => pts_nil) (fun s H C cl fp => (pe_slice sl_list (pv 11) (po_some (pv 4)) po_none))) pa_nil))))
      (pss_cons (ps_set (i := 6) sc_likely_document.nd rfl (Or.inr rfl) (pe_g g_lower_left (hr.mono (by decide)) rfl (pa_cons (pv 0) (pa_cons (pv 5) pa_nil))))
      (pss_cons (ps_set (i := 7) sc_likely_document.nd rfl (Or.inl rfl) (pe_g g_rows_through (hr.mono (by decide)) rfl (pa_cons (pv 3) (pa_cons (pe_lc (g := (gTup K 2 (gCons (gName 12) (gCons (gName 11) gNil)))) (te := (tCall sp_plus [] E0 (tCons (tSl (rSlL K) (tVar 11) tNoPart (tPart (tVar 4))) (tCons (tCall sp_value_at [] E0 (tCons (tVar 12) (tCons (tVar 6) tNil))) tNil)))) (own := [("place", 12), ("rows", 11)]) rfl sc_likely_document.nd (pi_zip rfl B.zip (pa_cons (pv 3) (pa_cons (pv 2) pa_nil))) (blkOk_by (by rfl)) (fun s H C cl fp => (pg_tup (n := 2) rfl (pgs_cons (pg_name (i := 12) sc_likely_document.nd rfl (Or.inl rfl) (Or.inr rfl)) (pgs_cons (pg_name (i := 11) sc_likely_document.nd rfl (Or.inl rfl) (Or.inr rfl)) pgs_nil)))) (fun s H C cl fp => pts_nil) (fun s H C cl fp => (pe_g g_plus (hr.mono (by decide)) rfl (pa_cons (pe_slice sl_list (pv 11) po_none (po_some (pv 4))) (pa_cons (pe_g g_value_at (hr.mono (by decide)) rfl (pa_cons (pv 12) (pa_cons (pv 6) pa_nil))) pa_nil))))) pa_nil))))
      (pss_cons (ps_set (i := 8) sc_likely_document.nd rfl (Or.inl rfl) (pe_lst pa_nil))
      (pss_cons (ps_for PassesOwn.never rfl (pi_range1 rfl B.range (pa_cons (pe_fld (pv 0) rfl) pa_nil)) (pg_name (i := 9) sc_likely_document.nd rfl (Or.inl rfl)) (pss_cons (ps_expr (pe_bm PySem.F.plainAttrs_list PySem.F.slot_list_extend PySem.F.type_list_extend mt_extend (pv 8) (pa_cons (pe_slice sl_list (pe_ix ix_list (pv 7) (pv 9) (fun _ _ => rfl)) (po_some (pe_op op_mul (pv 9) (pe_fld (pv 0) rfl))) po_none) pa_nil)))
      (pss_one (ps_expr (pe_bm PySem.F.plainAttrs_list PySem.F.slot_list_extend PySem.F.type_list_extend mt_extend (pv 8) (pa_cons (pe_ix ix_list (pv 5) (pv 9) (fun _ _ => rfl)) pa_nil))))))
      (pss_one (ps_ret (pv 8)))))))))), ?_⟩
    refine ⟨_, rfl, q, rfl, ⟨_, SqL.of hq⟩, fun D hD => ?_⟩
    refine lc_list (xs := nvs l) (Acc H D fun j y _ => y = bv (Sp.place (l.getD j 0))) (Acc.start hD) (fun i H1 _ z => SqL.of (z.same _ _ hq)) (fun i x H1 e1 z => ?_) (fun H1 z => ?_)
    · obtain ⟨hi, rfl⟩ := nvs_get e1
      have := h9 _ (Tld.getD_mem hi)
      exact ⟨rfl, _, rfl, _, rfl, by omega, Acc.push (fun _ _ _ _ _ h => h) hD z (.refl _) rfl (by omega)⟩
    have s1 := z.same
    have hps : H1 D = some (.lst (bvs ((List.range c.k).map fun j => Sp.place (l.getD j 0)))) := by
      obtain ⟨ys, g1, g2, g3⟩ := z.ex
      rw [g1, vals_of g2 g3, bvs_range, nvs_len, hl]
    have hpl : ((List.range c.k).map fun j => Sp.place (l.getD j 0)).length = c.k := by simp
    have hap := places_apart hn h9 (m := c.k) (by omega)
    refine ⟨_, rfl, p, C, dx, _, _, rfl, s1 _ _ hp, T.cl, T.nk, codeF_k c, _, rfl, p, C, dx, _, _, rfl, s1 _ _ hp, T.cl, T.nw, codeF_w c, _, _, rfl, rfl, .inr ⟨by omega, by omega⟩, ?_⟩
    dsimp only
    rw [mul_nat]
    refine ⟨_, rfl, _, rfl, za, rfl, ⟨_, SqL.of (s1 _ _ hza)⟩, fun D2 hD2 => ?_⟩
    refine lc_list (xs := hvs) (Acc H1 D2 (RowNew H1 fun j => (held.getD j []).drop (c.k * c.len))) (Acc.start hD2) (fun i H2 _ z => SqL.of (z.same _ _ (s1 _ _ hza))) (fun i x H2 e1 z => ?_) (fun H2 z2 => ?_)
    · obtain ⟨hi, px, rfl, hpx⟩ := hhv.of e1
      refine ⟨rfl, _, rfl, _, rfl, _, rfl, px, _, rfl, SqL.of (z.same _ _ (s1 _ _ hpx)), fun q2 hq2 => ?_⟩
      refine acc_pushR' hD2 z (.refl _) (.new hq2) hq2 ?_ (by rw [hS.1] at hi; omega)
      rw [upd_same, cut_lo, bvs_drop]
    have s2 := z2.same
    have i2 := (acc_isR hD2 z2).mono (nw_same _ _)
    rw [hvl] at i2
    refine ⟨_, _, _, _, (c.d - c.k) * c.len, rfl, ⟨D, rfl, s2 _ _ hps⟩, i2, by simp, by rw [hpl]; omega, by rw [hpl]; omega, hap, ?_, by omega, fun H3 v3 s3 hRt => ?_⟩
    · intro r hr
      obtain ⟨i, hi, rfl⟩ := List.mem_map.mp hr
      rw [List.length_drop, hgl i (by simpa using hi), hdk]
    have eR : throughR (fun i => ((List.range c.k).map fun j => Sp.place (l.getD j 0)).getD i 0) (fun i => ((List.range c.k).map fun j => (held.getD j []).drop (c.k * c.len)).getD i []) ((List.range c.k).map fun j => Sp.place (l.getD j 0)).length = rightOf c (fun a => Sp.place (l.getD a 0)) fun a => held.getD a [] := by
      rw [hpl]
      exact throughR_congr k1 (fun i hi => Rw.getD_range _ _ hi) (fun i hi => Rw.getD_range _ _ hi)
    rw [eR] at hRt
    have s13 := s2.trans s3
    refine ⟨_, rfl, _, rfl, ?_⟩
    refine ⟨_, _, c, _, rfl, ⟨p, dx, rfl, s13 _ _ (s1 _ _ hp)⟩, hRt, o, hRS.1, hRS.2, fun H4 v4 s4 hLow => ?_⟩
    have s14 := s13.trans s4
    refine ⟨_, rfl, _, rfl, _, rfl, D, za, bvs ((List.range c.k).map fun j => Sp.place (l.getD j 0)), hvs, rfl, SqL.of (s14 _ _ hps), SqL.of (s14 _ _ (s1 _ _ hza)), fun D5 hD5 => ?_⟩
    refine lc_zip (Acc H4 D5 (RowNew H4 fun j => Sp.xor ((held.getD j []).take (c.k * c.len)) (vAt (c.k * c.len) (Sp.place (l.getD j 0)) (lower c (rightOf c (fun a => Sp.place (l.getD a 0)) fun a => held.getD a []))))) (Acc.start hD5)
      (fun i H5 z => ⟨SqL.of (z.same _ _ (s14 _ _ hps)), SqL.of (z.same _ _ (s14 _ _ (s1 _ _ hza)))⟩) (fun i x y H5 T5 e1 e2 z hT => ?_) (fun H5 z5 => ?_)
    · obtain ⟨h1, rfl⟩ := bvs_get e1
      rw [hpl] at h1
      obtain ⟨hi, px, rfl, hpx⟩ := hhv.of e2
      have sT : Same H5 (upd H5 T5 (.tup [bv (((List.range c.k).map fun j => Sp.place (l.getD j 0)).getD i 0), V.ref px])) := .new hT
      refine ⟨T5, _, rfl, SqT.of upd_same, rfl, _, _, rfl, _, _, rfl, rfl, rfl, ?_⟩
      refine ⟨_, rfl, _, rfl, _, rfl, px, _, rfl, SqL.of (sT _ _ (z.same _ _ (s14 _ _ (s1 _ _ hpx)))), fun q2 hq2 => ?_⟩
      have sq := sT.trans (.new (o := .lst (cutV (bvs (held.getD i [])) none (some ((c.k * c.len : Nat) : Int)))) hq2)
      refine ⟨_, rfl, _, rfl, ?_⟩
      refine ⟨_, _, _, c.k * c.len, rfl, hLow.mono (z.same.trans sq), by rw [hWS.1]; omega, hWS.2, by omega, fun H6 a6 s6 n6 e6 => ?_⟩
      refine ⟨_, _, (held.getD i []).take (c.k * c.len), _, rfl, ⟨q2, rfl, s6 _ _ ?_⟩, ⟨a6, rfl, e6⟩, ?_, fun H7 a7 s7 n7 e7 => ?_⟩
      · rw [upd_same, cut_hi, bvs_take]
      · have := take_len_le (b := held.getD i []) (n := c.k * c.len)
        omega
      · refine acc_pushR' hD5 z (sq.trans s6) s7 n7 ?_ (by omega)
        rw [e7, Rw.getD_range _ _ h1]
    have i5 := (acc_isR hD5 z5).mono (nw_same _ _)
    rw [bvs_len, hpl, hvl, Nat.min_self] at i5
    have s15 := s14.trans z5.same
    refine ⟨_, _, _, _, c.k * c.len, rfl, ⟨D, rfl, s15 _ _ hps⟩, i5, by simp, by rw [hpl]; omega, by rw [hpl]; omega, hap, ?_, by omega, fun H6 v6 s6 hLt => ?_⟩
    · intro r hr
      obtain ⟨i, hi, rfl⟩ := List.mem_map.mp hr
      rw [Rw.xor_len, List.length_take, hgl i (by simpa using hi), Rw.vAt_len hWS.2]
      omega
    have eL : throughR (fun i => ((List.range c.k).map fun j => Sp.place (l.getD j 0)).getD i 0) (fun i => ((List.range c.k).map fun j => Sp.xor ((held.getD j []).take (c.k * c.len)) (vAt (c.k * c.len) (Sp.place (l.getD j 0)) (lower c (rightOf c (fun a => Sp.place (l.getD a 0)) fun a => held.getD a [])))).getD i []) ((List.range c.k).map fun j => Sp.place (l.getD j 0)).length = leftOf c (fun a => Sp.place (l.getD a 0)) fun a => held.getD a [] := by
      rw [hpl]
      exact throughR_congr k1 (fun i hi => Rw.getD_range _ _ hi) (fun i hi => Rw.getD_range _ _ hi)
    rw [eL] at hLt
    have hRt6 := hRt.mono ((s4.trans z5.same).trans s6)
    obtain ⟨ra, rvs, rfl, hra, hrv⟩ := hRt6
    obtain ⟨la, lvs, rfl, hla, hlv⟩ := hLt
    have s06 : Same H H6 := (s1.trans s15).trans s6
    refine ⟨z0L, fun da hda => ?_⟩
    have s7 : Same H6 (upd H6 da (.lst [])) := .new hda
    refine ⟨_, rfl, p, C, dx, _, _, rfl, s7 _ _ (s06 _ _ hp), T.cl, T.nk, codeF_k c, _, rfl, by omega, by omega, ?_⟩
    have hLl : ∀ i, i < c.k → (((leftOf c (fun a => Sp.place (l.getD a 0)) fun a => held.getD a []).getD i []).drop (i * c.len) ++ (rightOf c (fun a => Sp.place (l.getD a 0)) fun a => held.getD a []).getD i []).length ≤ 768 := fun i hi => by
      rw [List.length_append, List.length_drop, Tld.getD_len hLS hi, Tld.getD_len hRS hi]
      omega
    have hfl : ∀ j, j ≤ c.k → (((List.range j).map fun i => ((leftOf c (fun a => Sp.place (l.getD a 0)) fun a => held.getD a []).getD i []).drop (i * c.len) ++ (rightOf c (fun a => Sp.place (l.getD a 0)) fun a => held.getD a []).getD i []).flatten).length ≤ j * 768 := by
      intro j
      induction j with
      | zero => intro _; simp
      | succ j ih =>
        intro hj
        rw [range_flat, List.length_append, Nat.add_mul, Nat.one_mul]
        have := ih (by omega)
        have := hLl j (by omega)
        omega
    refine for_range (n := c.k) (fun i σ H7 => ∃ r9, σ = [some (V.ref p), some (V.ref q), some (V.ref za), some (V.ref D), some (nv (c.k * c.len)), some (V.ref ra), some v4, some (V.ref la), some (V.ref da), r9, none, none, none] ∧ Same H6 H7 ∧
      H7 da = some (.lst (bvs ((List.range i).map fun i => ((leftOf c (fun a => Sp.place (l.getD a 0)) fun a => held.getD a []).getD i []).drop (i * c.len) ++ (rightOf c (fun a => Sp.place (l.getD a 0)) fun a => held.getD a []).getD i []).flatten))) ?_ ?_ ?_
    · exact ⟨_, rfl, s7, upd_same⟩
    · rintro i σ H7 hi ⟨r9, rfl, s8, hd7⟩
      have hp7 := s8 _ _ (s06 _ _ hp)
      obtain ⟨lp, le, hlp⟩ := hlv.get (i := i) (by rw [hLS.1]; exact hi)
      obtain ⟨rp, re, hrp⟩ := hrv.get (i := i) (by rw [hRS.1]; exact hi)
      have f1 := hfl i (by omega)
      have f2 := hLl i hi
      rw [List.length_append] at f2
      have f3 : i * 768 ≤ 6 * 768 := Nat.mul_le_mul_right _ (by omega)
      refine ⟨_, rfl, .inl ⟨rfl, _, SqL.of hd7⟩, _, rfl, _, rfl, la, _, _, _, rfl, rfl, SqL.of (s8 _ _ hla), at_of (by omega) le, _, rfl, _, rfl, p, C, dx, _, _, rfl, hp7, T.cl, T.nw, codeF_w c, _, _, rfl, rfl, .inr ⟨by omega, by omega⟩, _, rfl, lp, _, rfl, SqL.of (s8 _ _ hlp), fun q2 hq2 => ?_⟩
      have e1 : cutV (bvs ((leftOf c (fun a => Sp.place (l.getD a 0)) fun a => held.getD a []).getD i [])) (some ((0 + (i : Int)) * (c.len : Int))) none = bvs (((leftOf c (fun a => Sp.place (l.getD a 0)) fun a => held.getD a []).getD i []).drop (i * c.len)) := by
        rw [mul_nat0, cut_lo, bvs_drop]
      rw [e1]
      have s9 : Same H7 (upd H7 q2 (.lst (bvs (((leftOf c (fun a => Sp.place (l.getD a 0)) fun a => held.getD a []).getD i []).drop (i * c.len))))) := .new hq2
      refine ⟨da, q2, _, _, rfl, rfl, s9 _ _ hd7, upd_same, by rw [bvs_len, bvs_len]; show _ ≤ 2 ^ 24; omega, ?_⟩
      have s10 : Same H6 (upd (upd H7 q2 (.lst (bvs (((leftOf c (fun a => Sp.place (l.getD a 0)) fun a => held.getD a []).getD i []).drop (i * c.len))))) da (.lst (bvs ((List.range i).map fun i => ((leftOf c (fun a => Sp.place (l.getD a 0)) fun a => held.getD a []).getD i []).drop (i * c.len) ++ (rightOf c (fun a => Sp.place (l.getD a 0)) fun a => held.getD a []).getD i []).flatten ++ bvs (((leftOf c (fun a => Sp.place (l.getD a 0)) fun a => held.getD a []).getD i []).drop (i * c.len))))) := (s8.trans s9).upd hda
      refine ⟨_, rfl, .inl ⟨rfl, _, SqL.of upd_same⟩, _, rfl, _, rfl, ra, _, _, _, rfl, rfl, SqL.of (s10 _ _ hra), at_of (by omega) re, ?_⟩
      refine ⟨da, rp, _, _, rfl, rfl, upd_same, s10 _ _ hrp, ?_, ?_⟩
      · rw [List.length_append, bvs_len, bvs_len, bvs_len]
        show _ ≤ 2 ^ 24
        omega
      · refine ⟨_, rfl, s10.upd hda, ?_⟩
        rw [upd_same, bvs_app, bvs_app, range_flat, List.append_assoc]
    · rintro σ H7 ⟨r9, rfl, s8, hd7⟩
      refine ⟨_, rfl, k H7 da (s06.trans s8) (s06.free hda) ?_⟩
      rw [hd7]
      rfl
end
end Sn
end
section
set_option maxHeartbeats 4000000
namespace Sn
open PySem PySem.Spec PyProof.Rows L2
open Rw (vAt throughR ddR hornerR)
open Tld (Ok likely rightOf leftOf lower toldM againM)
open Gau (Shape)
section
variable {P : Program} {w : World} {K : PySem.W.Frag} {mg : Str → Option Value} {base : Heap} {C : Addr}
abbrev rIsN0 : R2 := fun x y H Q => y = .non ∧ Q (.bl (decide (x = .non))) H
abbrev rNotN0 : R2 := fun x y H Q => y = .non ∧ Q (.bl (!decide (x = .non))) H
def bdat (b : Sp.Bytes) : List PyData := b.map fun x => .int (x.toNat : Int)
theorem dp_all {H : Hp} : ∀ (b : Sp.Bytes), DpAll K H (bvs b) (bdat b)
  | [] => .nil
  | x :: b => .cons (.int _) (dp_all b)
theorem dp_bytes {H : Hp} {a : Addr} {b : Sp.Bytes} (h : H a = some (.lst (bvs b))) : Dp K H (.ref a) (.list (bdat b)) := .lst (SqL.of h) (dp_all b)
theorem bdat_lay : ∀ (b : Sp.Bytes), PyData.canLayAll0 (bdat b) = true ∧ PyData.depthAll (bdat b) ≤ 1
  | [] => ⟨by simp [bdat, PyData.canLayAll0], by simp [bdat, PyData.depthAll]⟩
  | x :: b => by
    obtain ⟨h1, h2⟩ := bdat_lay b
    refine ⟨?_, ?_⟩
    · show PyData.canLayAll0 (.int _ :: bdat b) = true
      simp [PyData.canLayAll0, PyData.canLay0, h1]
    · show PyData.depthAll (.int _ :: bdat b) ≤ 1
      simp only [PyData.depthAll, PyData.depth]
      omega
theorem bdat_shaped (b : Sp.Bytes) : SeqAt.shaped (.list (bdat b)) = true := by
  obtain ⟨h1, h2⟩ := bdat_lay b
  unfold SeqAt.shaped
  rw [Bool.and_eq_true]
  refine ⟨by rw [PyData.canLay0]; exact h1, decide_eq_true ?_⟩
  rw [PyData.depth]
  omega
theorem bdat_eqvAll : ∀ (a b : Sp.Bytes), PyData.eqvAll (bdat a) (bdat b) = decide (a = b)
  | [], [] => by simp [bdat, PyData.eqvAll]
  | [], y :: b => by simp [bdat, PyData.eqvAll]
  | x :: a, [] => by simp [bdat, PyData.eqvAll]
  | x :: a, y :: b => by
    show PyData.eqvAll (.int _ :: bdat a) (.int _ :: bdat b) = _
    rw [PyData.eqvAll, PyData.eqv, bdat_eqvAll a b]
    by_cases h : x = y
    · subst h
      simp
    · have : ((x.toNat : Int) == (y.toNat : Int)) = false := by
        rw [beq_eq_false_iff_ne]
        intro e
        exact h (UInt8.toNat_inj.mp (by omega))
      rw [this]
      simp [h]
theorem bdat_eqv (a b : Sp.Bytes) : PyData.eqv (.list (bdat a)) (.list (bdat b)) = decide (a = b) := by rw [PyData.eqv, bdat_eqvAll]
def RN (H : Hp) (Q : VK) (l : List Nat) : Prop := ∀ (H' : Hp) (a : Addr), Same H H' → H a = none → H' a = some (.lst (nvs l)) → Q (.ref a) H'
def apartM (c : Sp.Code) (l : List Nat) (held : List Sp.Bytes) (doc : Sp.Bytes) : List Nat :=
  ((l.zip held).filter fun q => !decide (vAt (c.d * c.len) (Sp.place q.1) (Tld.square c (Sp.rowsOf c.len c.holds doc)) = q.2)).map Prod.fst
theorem zip_take {l : List Nat} {held : List Sp.Bytes} {i : Nat} (h1 : i < l.length) (h2 : i < held.length) : (l.zip held).take (i + 1) = (l.zip held).take i ++ [(l.getD i 0, held.getD i [])] := by
  rw [List.take_add_one]
  congr 1
  rw [List.getElem?_eq_getElem (by rw [List.length_zip]; omega), List.getElem_zip]
  simp [h1, h2]
theorem nvs_snoc (l : List Nat) (n : Nat) : nvs l ++ [nv n] = nvs (l ++ [n]) := by unfold nvs; simp
theorem square_shape {c : Sp.Code} (o : Ok c) {b : Sp.Bytes} (hb : b.length = c.holds * c.len) : Shape c.d (c.d * c.len) (Tld.square c (Sp.rowsOf c.len c.holds b)) := by
  have hX := Rw.rowsOf_shape (L := c.len) (n := c.holds) hb
  unfold Tld.square
  refine ⟨by simp, fun r hr => ?_⟩
  obtain ⟨i, hi, rfl⟩ := List.mem_map.mp hr
  exact range_flat_len fun j hj => Tld.entry_len o.kd hX (by simpa using hi) hj
theorem sc_nodes_apart : FnScope ["code", "nodes", "held", "document", "square", "node", "rows"] ["code", "nodes", "held", "document"] (defScope (top 34)) := ⟨rfl, rfl, rfl, by decide +kernel, rfl, by decide +kernel, by decide +kernel⟩
def sp_nodes_apart (C : Addr) : L2.Sp := fun vs H Q _ => ∃ (x y z u : V) (c : Sp.Code) (l : List Nat) (held : List Sp.Bytes) (doc : Sp.Bytes), vs = [x, y, z, u] ∧ IsCode C H x c ∧ IsN H y l ∧ IsR H z held ∧ IsB H u doc ∧ Ok c ∧ held.length = l.length ∧ l.length ≤ 9 ∧ (∀ f ∈ l, f < 9) ∧ doc.length = c.holds * c.len ∧
  RN H Q (apartM c l held doc)
theorem ok_nodes_apart {f : Addr} {fd : FuncData} (F : Fun K "nodes_apart" "nodes_apart" (top 34) f fd) (B : Bi mg) (T : Cc K C) (g_square_of : Gd P w K mg base 2 "square_of" ["code", "document"] (sp_square_of C)) (g_rows_of_node : Gd P w K mg base 3 "rows_of_node" ["square", "node"] sp_rows_of_node) :
    FnOk P w K mg base CX0 4 f fd ["code", "nodes", "held", "document"] (sp_nodes_apart C) := by
  refine F.ok sc_nodes_apart (fun vs H Q E h => ?_) (fun cdv A outer s H vs Q E hr h => ?_)
  · obtain ⟨x, y, z, u, c, l, held, doc, rfl, _⟩ := h
    rfl
  · obtain ⟨x, y, z, u, c, l, held, doc, rfl, ⟨p, dx, rfl, hp⟩, ⟨q, rfl, hq⟩, ⟨za, hvs, rfl, hza, hhv⟩, ⟨ua, rfl, hua⟩, o, hl, h10, h9, hd, k⟩ := h
    have hdl := d_len_le o
    have hsq := square_shape o hd
    refine ⟨_, (pss_cons (ps_set (i := 4) sc_nodes_apart.nd rfl (Or.inr rfl) (pe_g g_square_of (hr.mono (by decide)) rfl (pa_cons (pv 0) (pa_cons (pv 3) pa_nil))))
      (pss_one (ps_ret (pe_lc (g := (gTup K 2 (gCons (gName 5) (gCons (gName 6) gNil)))) (tt := (tTest (tOp (rNeD K) (tCall sp_rows_of_node [] E0 (tCons (tVar 4) (tCons (tVar 5) tNil))) (tVar 6)))) (te := (tVar 5)) (own := [("node", 5), ("rows", 6)]) rfl sc_nodes_apart.nd (pi_zip rfl B.zip (pa_cons (pv 1) (pa_cons (pv 2) pa_nil))) (blkOk_by (by rfl)) (fun s H C cl fp => (pg_tup (n := 2) rfl (pgs_cons (pg_name (i := 5) sc_nodes_apart.nd rfl (Or.inl rfl) (Or.inr rfl)) (pgs_cons (pg_name (i := 6) sc_nodes_apart.nd rfl (Or.inl rfl) (Or.inr rfl)) pgs_nil)))) (fun s H C cl fp => (pts_one (pt_cmpR (op_neD hr.units) (pe_g g_rows_of_node (hr.mono (by decide)) rfl (pa_cons (pv 4) (pa_cons (pv 5) pa_nil))) (pv 6) (nomark _)))) (fun s H C cl fp => (pv 5)))))), ?_⟩
    refine ⟨_, rfl, _, rfl, _, _, c, doc, rfl, ⟨p, dx, rfl, hp⟩, ⟨ua, rfl, hua⟩, o, hd, fun H1 v1 s1 hsqr => ?_⟩
    refine ⟨_, rfl, _, rfl, q, za, nvs l, hvs, rfl, SqL.of (s1 _ _ hq), SqL.of (s1 _ _ hza), fun D hD => ?_⟩
    refine lc_zip (fun i H2 => Same H1 H2 ∧ H2 D = some (.lst (nvs ((((l.zip held).take i).filter fun q => !decide (vAt (c.d * c.len) (Sp.place q.1) (Tld.square c (Sp.rowsOf c.len c.holds doc)) = q.2)).map Prod.fst)))) ⟨.new hD, upd_same⟩
      (fun i H2 z => ⟨SqL.of (z.1 _ _ (s1 _ _ hq)), SqL.of (z.1 _ _ (s1 _ _ hza))⟩) (fun i x y H2 T2 e1 e2 z hT => ?_) (fun H2 z => ?_)
    · obtain ⟨h1, rfl⟩ := nvs_get e1
      obtain ⟨h2, px, rfl, hpx⟩ := hhv.of e2
      have h3 := h9 _ (Tld.getD_mem h1)
      have sT : Same H2 (upd H2 T2 (.tup [nv (l.getD i 0), V.ref px])) := .new hT
      refine ⟨T2, _, rfl, SqT.of upd_same, rfl, _, _, rfl, _, _, rfl, rfl, rfl, ?_⟩
      refine ⟨_, rfl, _, rfl, _, _, l.getD i 0, c.d * c.len, rfl, hsqr.mono (z.1.trans sT), by rw [hsq.1]; have := o.k1; have := o.kd; omega, hsq.2, by omega, by omega, fun H3 a3 s3 n3 e3 => ?_⟩
      have s23 := sT.trans s3
      refine ⟨_, rfl, _, _, dp_bytes e3, dp_bytes (s23 _ _ (z.1 _ _ (s1 _ _ hpx))), bdat_shaped _, bdat_shaped _, _, rfl, ?_⟩
      rw [bdat_eqv, zip_take h1 h2, List.filter_append, List.map_append]
      refine ite2 (fun h => ?_) (fun h => ?_)
      · refine ⟨_, rfl, _, s23 _ _ z.2, ?_, (z.1.trans s23).upd hD, ?_⟩
        · rw [nvs_len, List.length_map]
          have h4 := List.length_filter_le (fun q => !decide (vAt (c.d * c.len) (Sp.place q.1) (Tld.square c (Sp.rowsOf c.len c.holds doc)) = q.2)) ((l.zip held).take i)
          have h5 : ((l.zip held).take i).length ≤ i := by rw [List.length_take]; omega
          show _ < 2 ^ 24
          omega
        · rw [upd_same, List.filter_cons, if_pos h, List.filter_nil, nvs_snoc]
          rfl
      · refine ⟨z.1.trans s23, ?_⟩
        rw [s23 _ _ z.2, List.filter_cons, if_neg h, List.filter_nil, List.map_nil, List.append_nil]
    · rw [nvs_len, hhv.1, hl, Nat.min_self, List.take_of_length_le (by rw [List.length_zip]; omega)] at z
      exact k H2 D (s1.trans z.1) (s1.free hD) z.2
theorem apart_nil {c : Sp.Code} {l : List Nat} {held : List Sp.Bytes} : toldM c l held = if (apartM c l held (likely c (fun a => Sp.place (l.getD a 0)) fun a => held.getD a [])).length = 0 then some (likely c (fun a => Sp.place (l.getD a 0)) fun a => held.getD a []) else none := by
  unfold toldM apartM
  rw [List.length_map]
  have e : ((l.zip held).all (fun q => decide (vAt (c.d * c.len) (Sp.place q.1) (Tld.square c (Sp.rowsOf c.len c.holds (likely c (fun a => Sp.place (l.getD a 0)) fun a => held.getD a []))) = q.2)) = true) ↔ (((l.zip held).filter fun q => !decide (vAt (c.d * c.len) (Sp.place q.1) (Tld.square c (Sp.rowsOf c.len c.holds (likely c (fun a => Sp.place (l.getD a 0)) fun a => held.getD a []))) = q.2)).length = 0) := by
    rw [List.length_eq_zero_iff, List.filter_eq_nil_iff, List.all_eq_true]
    simp
  by_cases h : (((l.zip held).filter fun q => !decide (vAt (c.d * c.len) (Sp.place q.1) (Tld.square c (Sp.rowsOf c.len c.holds (likely c (fun a => Sp.place (l.getD a 0)) fun a => held.getD a []))) = q.2)).length = 0)
  · rw [if_pos h, if_pos (e.mpr h)]
  · rw [if_neg h, if_neg fun z => h (e.mp z)]
theorem AllB.take {H : Hp} {vs : List V} {rs : List Sp.Bytes} (h : AllB H vs rs) (n : Nat) : AllB H (vs.take n) (rs.take n) := by
  refine ⟨by rw [List.length_take, List.length_take, h.1], fun i v r e1 e2 => ?_⟩
  rw [List.getElem?_take] at e1 e2
  split at e1
  · rename_i hi
    rw [if_pos hi] at e2
    exact h.2 i v r e1 e2
  · cases e1
theorem getD_take {α : Type} {l : List α} {z : α} {i n : Nat} (h : i < n) : (l.take n).getD i z = l.getD i z := by
  rw [List.getD_eq_getElem?_getD, List.getD_eq_getElem?_getD, List.getElem?_take, if_pos h]
def RT (H : Hp) (Q : VK) : Option Sp.Bytes → Prop
  | none => ∀ H', Same H H' → Q .non H'
  | some b => RB H Q b
theorem RT.none {H : Hp} {Q : VK} {r : Option Sp.Bytes} (h : RT H Q r) (e : r = .none) : ∀ H', Same H H' → Q .non H' := by subst e; exact h
theorem RT.some {H : Hp} {Q : VK} {r : Option Sp.Bytes} {b : Sp.Bytes} (h : RT H Q r) (e : r = .some b) : RB H Q b := by subst e; exact h
theorem sc_told_document : FnScope ["code", "nodes", "held", "document"] ["code", "nodes", "held"] (defScope (top 35)) := ⟨rfl, rfl, rfl, by decide +kernel, rfl, by decide +kernel, by decide +kernel⟩
def sp_told_document (C : Addr) : L2.Sp := fun vs H Q _ => ∃ (x y z : V) (c : Sp.Code) (l : List Nat) (held : List Sp.Bytes), vs = [x, y, z] ∧ IsCode C H x c ∧ IsN H y l ∧ IsR H z held ∧ Ok c ∧ c.k ≤ l.length ∧ l.length ≤ 9 ∧ l.Nodup ∧ (∀ f ∈ l, f < 9) ∧ Shape l.length (c.d * c.len) held ∧
  RT H Q (toldM c l held)
theorem ok_told_document {f : Addr} {fd : FuncData} (F : Fun K "told_document" "told_document" (top 35) f fd) (B : Bi mg) (T : Cc K C) (g_likely_document : Gd P w K mg base 4 "likely_document" ["code", "nodes", "held"] (sp_likely_document C)) (g_nodes_apart : Gd P w K mg base 4 "nodes_apart" ["code", "nodes", "held", "document"] (sp_nodes_apart C)) :
    FnOk P w K mg base CX0 5 f fd ["code", "nodes", "held"] (sp_told_document C) := by
  refine F.ok sc_told_document (fun vs H Q E h => ?_) (fun cdv A outer s H vs Q E hr h => ?_)
  · obtain ⟨x, y, z, c, l, held, rfl, _⟩ := h
    rfl
  · obtain ⟨x, y, z, c, l, held, rfl, ⟨p, dx, rfl, hp⟩, ⟨q, rfl, hq⟩, ⟨za, hvs, rfl, hza, hhv⟩, o, hkl, h10, hn, h9, hS, k⟩ := h
    have k1 := o.k1
    have hgl : ∀ i, i < c.k → (held.getD i []).length = c.d * c.len := fun i hi => Tld.getD_len hS (by omega)
    have hll := Tld.likely_len k1 o.kd (fun a => Sp.place (l.getD a 0)) (h := fun a => held.getD a []) hgl
    refine ⟨_, (pss_cons (ps_set (i := 3) sc_told_document.nd rfl (Or.inl rfl) (pe_g g_likely_document (hr.mono (by decide)) rfl (pa_cons (pv 0) (pa_cons (pe_slice sl_list (pv 1) po_none (po_some (pe_fld (pv 0) rfl))) (pa_cons (pe_slice sl_list (pv 2) po_none (po_some (pe_fld (pv 0) rfl))) pa_nil)))))
      (pss_cons (ps_if (pt_cmpR op_gt (pe_callB call_len_seq rfl B.len PySem.boot_len (pa_cons (pe_g g_nodes_apart (hr.mono (by decide)) rfl (pa_cons (pv 0) (pa_cons (pv 1) (pa_cons (pv 2) (pa_cons (pv 3) pa_nil))))) pa_nil)) pe_int (nomark _)) (pss_one (ps_ret pe_non)) pss_nil)
      (pss_one (ps_ret (pv 3))))), ?_⟩
    refine ⟨_, rfl, _, rfl, _, rfl, p, C, dx, _, _, rfl, hp, T.cl, T.nk, codeF_k c, _, rfl, q, _, rfl, SqL.of hq, fun q1 hq1 => ?_⟩
    rw [cut_hi, nvs_take]
    have s1 : Same H (upd H q1 (.lst (nvs (l.take c.k)))) := .new hq1
    refine ⟨_, rfl, _, rfl, p, C, dx, _, _, rfl, s1 _ _ hp, T.cl, T.nk, codeF_k c, _, rfl, za, _, rfl, SqL.of (s1 _ _ hza), fun q2 hq2 => ?_⟩
    rw [cut_hi]
    have s2 : Same (upd H q1 (.lst (nvs (l.take c.k)))) (upd (upd H q1 (.lst (nvs (l.take c.k)))) q2 (.lst (hvs.take c.k))) := .new hq2
    have s12 := s1.trans s2
    refine ⟨_, _, _, c, l.take c.k, held.take c.k, rfl, ⟨p, dx, rfl, s12 _ _ hp⟩, ⟨q1, rfl, s2 _ _ upd_same⟩, ⟨q2, _, rfl, upd_same, (hhv.take c.k).mono s12⟩, o, by rw [List.length_take]; omega, hn.sublist (List.take_sublist _ _), fun f hf => h9 f (List.mem_of_mem_take hf), ⟨by rw [List.length_take, hS.1]; omega, fun r hr => hS.2 r (List.mem_of_mem_take hr)⟩, fun H3 a3 s3 n3 e3 => ?_⟩
    have el : likely c (fun a => Sp.place ((l.take c.k).getD a 0)) (fun a => (held.take c.k).getD a []) = likely c (fun a => Sp.place (l.getD a 0)) (fun a => held.getD a []) :=
      likely_congr k1 (fun i hi => by rw [getD_take hi]) (fun i hi => by rw [getD_take hi])
    rw [el] at e3
    have s13 := s12.trans s3
    refine ⟨_, rfl, _, rfl, _, rfl, _, rfl, ?_⟩
    refine ⟨_, _, _, _, c, l, held, _, rfl, ⟨p, dx, rfl, s13 _ _ hp⟩, ⟨q, rfl, s13 _ _ hq⟩, ⟨za, hvs, rfl, s13 _ _ hza, hhv.mono s13⟩, ⟨a3, rfl, e3⟩, o, hS.1, h10, h9, hll, fun H4 a4 s4 n4 e4 => ?_⟩
    refine ⟨a4, _, rfl, .inl (SqL.of e4), _, _, rfl, rfl, _, rfl, ?_⟩
    rw [apart_nil] at k
    rw [nvs_len]
    refine ite2 (fun h => ?_) (fun h => ?_)
    · have h := of_decide_eq_true h
      exact k.none (if_neg (by omega)) H4 (s13.trans s4)
    · have h2 : (apartM c l held (likely c (fun a => Sp.place (l.getD a 0)) fun a => held.getD a [])).length = 0 := by
        have : ¬ (0 : Int) < ((apartM c l held (likely c (fun a => Sp.place (l.getD a 0)) fun a => held.getD a [])).length : Int) := fun z => h (decide_eq_true z)
        omega
      exact ⟨_, rfl, (k.some (if_pos h2)) H4 a3 (s13.trans s4) (s12.free n3) (s4 _ _ e3)⟩
end
end Sn
end
section
set_option maxHeartbeats 4000000
namespace Sn
open PySem PySem.Spec PyProof.Rows L2
open Rw (vAt throughR ddR hornerR)
open Tld (Ok likely rightOf leftOf lower toldM againM)
open Gau (Shape)
section
variable {P : Program} {w : World} {K : PySem.W.Frag} {mg : Str → Option Value} {base : Heap} {C : Addr}
theorem sc_part_for : FnScope ["code", "node", "rows"] ["code", "node", "rows"] (defScope (top 36)) := ⟨rfl, rfl, rfl, by decide +kernel, rfl, by decide +kernel, by decide +kernel⟩
def sp_part_for (C : Addr) : L2.Sp := fun vs H Q _ => ∃ (x y : V) (c : Sp.Code) (n : Nat) (b : Sp.Bytes), vs = [x, nv n, y] ∧ IsCode C H x c ∧ IsB H y b ∧ Ok c ∧ n < 255 ∧ b.length = c.d * c.len ∧ RB H Q (vAt c.len (Sp.place n) (Sp.rowsOf c.len c.d b))
theorem ok_part_for {f : Addr} {fd : FuncData} (F : Fun K "part_for" "part_for" (top 36) f fd) (T : Cc K C) (g_place_of : Gd P w K mg base 1 "place_of" ["node"] sp_place_of) (g_value_at : Gd P w K mg base 2 "value_at" ["place", "rows"] sp_value_at) (g_cut : Gd P w K mg base 1 "cut" ["row", "length"] sp_cut) :
    FnOk P w K mg base CX0 3 f fd ["code", "node", "rows"] (sp_part_for C) := by
  refine F.ok sc_part_for (fun vs H Q E h => ?_) (fun cdv A outer s H vs Q E hr h => ?_)
  · obtain ⟨x, y, c, n, b, rfl, _⟩ := h
    rfl
  · obtain ⟨x, y, c, n, b, rfl, ⟨p, dx, rfl, hp⟩, ⟨q, rfl, hq⟩, o, hn, hb, k⟩ := h
    have hdl := d_len_le o
    have l1 := o.l1
    have l64 := o.l64
    have hS := Rw.rowsOf_shape (L := c.len) (n := c.d) hb
    refine ⟨_, (pss_one (ps_ret (pe_g g_value_at (hr.mono (by decide)) rfl (pa_cons (pe_g g_place_of (hr.mono (by decide)) rfl (pa_cons (pv 1) pa_nil)) (pa_cons (pe_g g_cut (hr.mono (by decide)) rfl (pa_cons (pv 2) (pa_cons (pe_fld (pv 0) rfl) pa_nil))) pa_nil))))), ?_⟩
    refine ⟨_, rfl, n, rfl, hn, _, rfl, _, rfl, p, C, dx, _, _, rfl, hp, T.cl, T.nw, codeF_w c, ?_⟩
    refine ⟨_, b, c.len, c.d, rfl, ⟨q, rfl, hq⟩, l1, by omega, hb, by omega, fun H1 v s1 hR => ?_⟩
    refine ⟨_, _, _, c.len, rfl, hR.mono (nw_same _ _), by rw [hS.1]; have := o.k1; have := o.kd; omega, hS.2, by omega, fun H2 a s2 n2 e2 => ?_⟩
    exact k H2 a (s1.trans s2) (s1.free n2) e2
theorem sc_made_again : FnScope ["code", "nodes", "parts", "places", "made", "place", "part", "rows", "row", "node"] ["code", "nodes", "parts"] (defScope (top 37)) := ⟨rfl, rfl, rfl, by decide +kernel, rfl, by decide +kernel, by decide +kernel⟩
def sp_made_again (C : Addr) : L2.Sp := fun vs H Q _ => ∃ (x y z : V) (c : Sp.Code) (l : List Nat) (ps : List Sp.Bytes), vs = [x, y, z] ∧ IsCode C H x c ∧ IsN H y l ∧ IsR H z ps ∧ Ok c ∧ c.d ≤ l.length ∧ l.length ≤ 9 ∧ l.Nodup ∧ (∀ f ∈ l, f < 9) ∧ Shape l.length c.len ps ∧
  RT H Q (againM c l ps)
theorem ok_made_again {f : Addr} {fd : FuncData} (F : Fun K "made_again" "made_again" (top 37) f fd) (B : Bi mg) (T : Cc K C) (g_place_of : Gd P w K mg base 1 "place_of" ["node"] sp_place_of) (g_value_at : Gd P w K mg base 2 "value_at" ["place", "rows"] sp_value_at)
    (g_rows_through : Gd P w K mg base 3 "rows_through" ["places", "values"] sp_rows_through) :
    FnOk P w K mg base CX0 4 f fd ["code", "nodes", "parts"] (sp_made_again C) := by
  refine F.ok sc_made_again (fun vs H Q E h => ?_) (fun cdv A outer s H vs Q E hr h => ?_)
  · obtain ⟨x, y, z, c, l, ps, rfl, _⟩ := h
    rfl
  · obtain ⟨x, y, z, c, l, ps, rfl, ⟨p, dx, rfl, hp⟩, ⟨q, rfl, hq⟩, ⟨za, hvs, rfl, hza, hhv⟩, o, hdl, h10, hn, h9, hS, k⟩ := h
    have l1 := o.l1
    have l64 := o.l64
    have d6 := o.d6
    have d1 : 1 ≤ c.d := Nat.le_trans o.k1 o.kd
    have hgl : ∀ i, i < c.d → (ps.getD i []).length = c.len := fun i hi => Tld.getD_len hS (by omega)
    have hvl : hvs.length = l.length := by rw [hhv.1]; exact hS.1
    have hMl := Rw.throughR_len (p := fun a => Sp.place (l.getD a 0)) (v := fun a => ps.getD a []) (m := c.d) hgl d1
    have hMs := (Rw.throughR_all (p := fun a => Sp.place (l.getD a 0)) (v := fun a => ps.getD a []) (m := c.d) hgl d1).1
    refine ⟨_, (pss_cons (ps_setLc (g := (gName 9)) (te := (tCall sp_place_of [] E0 (tCons (tVar 9) tNil))) (own := [("node", 9)]) (i := 3) rfl sc_made_again.nd rfl rfl rfl (pi_list (pv 1)) (blkOk_by (by rfl)) (fun s H C cl fp => (pg_name (i := 9) sc_made_again.nd rfl (Or.inl rfl) (Or.inr rfl))) (fun s H C cl fp => pts_nil) (fun s H C cl fp => (pe_g g_place_of (hr.mono (by decide)) rfl (pa_cons (pv 9) pa_nil))))
      (pss_cons (ps_set (i := 4) sc_made_again.nd rfl (Or.inl rfl) (pe_g g_rows_through (hr.mono (by decide)) rfl (pa_cons (pe_slice sl_list (pv 3) po_none (po_some (pe_fld (pv 0) rfl))) (pa_cons (pe_slice sl_list (pv 2) po_none (po_some (pe_fld (pv 0) rfl))) pa_nil))))
      (pss_cons (ps_for PassesOwn.never rfl (pi_zip rfl B.zip (pa_cons (pv 3) (pa_cons (pv 2) pa_nil))) (pg_tup (n := 2) rfl (pgs_cons (pg_name (i := 5) sc_made_again.nd rfl (Or.inl rfl)) (pgs_cons (pg_name (i := 6) sc_made_again.nd rfl (Or.inl rfl)) pgs_nil))) (pss_one (ps_if (pt_cmpR (op_neD hr.units) (pe_g g_value_at (hr.mono (by decide)) rfl (pa_cons (pv 5) (pa_cons (pv 4) pa_nil))) (pv 6) (nomark _)) (pss_one (ps_ret pe_non)) pss_nil)))
      (pss_cons (ps_set (i := 7) sc_made_again.nd rfl (Or.inl rfl) (pe_lst pa_nil))
      (pss_cons (ps_for PassesOwn.never rfl (pi_list (pv 4)) (pg_name (i := 8) sc_made_again.nd rfl (Or.inl rfl)) (pss_one (ps_expr (pe_bm PySem.F.plainAttrs_list PySem.F.slot_list_extend PySem.F.type_list_extend mt_extend (pv 7) (pa_cons (pv 8) pa_nil)))))
      (pss_one (ps_ret (pv 7)))))))), ?_⟩
    refine ⟨_, rfl, q, rfl, ⟨_, SqL.of hq⟩, fun D hD => ?_⟩
    refine lc_list (xs := nvs l) (Acc H D fun j y _ => y = bv (Sp.place (l.getD j 0))) (Acc.start hD) (fun i H1 _ z => SqL.of (z.same _ _ hq)) (fun i x H1 e1 z => ?_) (fun H1 z => ?_)
    · obtain ⟨hi, rfl⟩ := nvs_get e1
      have := h9 _ (Tld.getD_mem hi)
      exact ⟨rfl, _, rfl, _, rfl, by omega, Acc.push (fun _ _ _ _ _ h => h) hD z (.refl _) rfl (by omega)⟩
    have s1 := z.same
    have hps : H1 D = some (.lst (bvs ((List.range l.length).map fun j => Sp.place (l.getD j 0)))) := by
      obtain ⟨ys, g1, g2, g3⟩ := z.ex
      rw [g1, vals_of g2 g3, bvs_range, nvs_len]
    have ht : ((List.range l.length).map fun j => Sp.place (l.getD j 0)).take c.d = (List.range c.d).map fun j => Sp.place (l.getD j 0) := Rw.map_take_range _ hdl
    refine ⟨_, rfl, _, rfl, p, C, dx, _, _, rfl, s1 _ _ hp, T.cl, T.nd, codeF_d c, _, rfl, D, _, rfl, SqL.of hps, fun q1 hq1 => ?_⟩
    rw [cut_hi, bvs_take, ht]
    have s2 : Same H1 (upd H1 q1 (.lst (bvs ((List.range c.d).map fun j => Sp.place (l.getD j 0))))) := .new hq1
    have s12 := s1.trans s2
    refine ⟨_, rfl, _, rfl, p, C, dx, _, _, rfl, s12 _ _ hp, T.cl, T.nd, codeF_d c, _, rfl, za, _, rfl, SqL.of (s12 _ _ hza), fun q2 hq2 => ?_⟩
    rw [cut_hi]
    have s3 : Same (upd H1 q1 (.lst (bvs ((List.range c.d).map fun j => Sp.place (l.getD j 0))))) (upd (upd H1 q1 (.lst (bvs ((List.range c.d).map fun j => Sp.place (l.getD j 0))))) q2 (.lst (hvs.take c.d))) := .new hq2
    have s13 := s12.trans s3
    have hpl : ((List.range c.d).map fun j => Sp.place (l.getD j 0)).length = c.d := by simp
    refine ⟨_, _, _, ps.take c.d, c.len, rfl, ⟨q1, rfl, s3 _ _ upd_same⟩, ⟨q2, _, rfl, upd_same, (hhv.take c.d).mono s13⟩, by rw [hpl, List.length_take, hS.1]; omega, by rw [hpl]; omega, by rw [hpl]; omega, places_apart hn h9 hdl, fun r hr => hS.2 r (List.mem_of_mem_take hr), by omega, fun H4 v4 s4 hM => ?_⟩
    have eM : throughR (fun i => ((List.range c.d).map fun j => Sp.place (l.getD j 0)).getD i 0) (fun i => (ps.take c.d).getD i []) ((List.range c.d).map fun j => Sp.place (l.getD j 0)).length = throughR (fun a => Sp.place (l.getD a 0)) (fun a => ps.getD a []) c.d := by
      rw [hpl]
      exact throughR_congr d1 (fun i hi => Rw.getD_range _ _ hi) (fun i hi => getD_take hi)
    rw [eM] at hM
    have s14 := s13.trans s4
    have s24 := (s2.trans s3).trans s4
    refine ⟨_, rfl, _, rfl, D, za, bvs ((List.range l.length).map fun j => Sp.place (l.getD j 0)), hvs, rfl, SqL.of (s24 _ _ hps), SqL.of (s14 _ _ hza), ?_⟩
    refine for_zip (xs := bvs ((List.range l.length).map fun j => Sp.place (l.getD j 0))) (ys := hvs) (fun i σ H5 => ∃ r5 r6, σ = [some (V.ref p), some (V.ref q), some (V.ref za), some (V.ref D), some v4, r5, r6, none, none, none] ∧ Same H4 H5 ∧ ∀ j, j < i → vAt c.len (Sp.place (l.getD j 0)) (throughR (fun a => Sp.place (l.getD a 0)) (fun a => ps.getD a []) c.d) = ps.getD j []) ?_ ?_ ?_ ?_
    · exact ⟨_, _, rfl, .refl _, fun j hj => absurd hj (Nat.not_lt_zero _)⟩
    · rintro i σ H5 ⟨r5, r6, rfl, s5, _⟩
      exact ⟨SqL.of (s5 _ _ (s24 _ _ hps)), SqL.of (s5 _ _ (s14 _ _ hza))⟩
    · rintro i x y σ H5 T5 e1 e2 ⟨r5, r6, rfl, s5, hall⟩ hT
      obtain ⟨h1, rfl⟩ := bvs_get e1
      have h1 : i < l.length := by simpa using h1
      obtain ⟨h2, px, rfl, hpx⟩ := hhv.of e2
      have sT : Same H5 (upd H5 T5 (.tup [bv (((List.range l.length).map fun j => Sp.place (l.getD j 0)).getD i 0), V.ref px])) := .new hT
      refine ⟨T5, _, rfl, SqT.of upd_same, rfl, _, _, rfl, _, _, rfl, rfl, ?_⟩
      refine ⟨_, rfl, _, rfl, ?_⟩
      refine ⟨_, _, _, c.len, rfl, hM.mono (s5.trans sT), by rw [hMl]; omega, hMs, by omega, fun H6 a6 s6 n6 e6 => ?_⟩
      have s56 := sT.trans s6
      refine ⟨_, rfl, _, _, dp_bytes e6, dp_bytes (s56 _ _ (s5 _ _ (s14 _ _ hpx))), bdat_shaped _, bdat_shaped _, _, rfl, ?_⟩
      rw [bdat_eqv, Rw.getD_range _ _ h1]
      refine ite2 (fun h => ?_) (fun h => ?_)
      · refine k.none ?_ H6 ((s14.trans s5).trans s56)
        unfold againM
        rw [if_neg]
        intro hz
        have h3 := List.all_eq_true.mp hz (l.getD i 0, ps.getD i []) (by
          rw [List.mem_iff_getElem]
          refine ⟨i, by rw [List.length_zip]; omega, ?_⟩
          rw [List.getElem_zip]
          simp [h1, h2])
        rw [h3] at h
        cases h
      · refine ⟨_, _, rfl, s5.trans s56, fun j hj => ?_⟩
        by_cases hji : j < i
        · exact hall j hji
        · have : j = i := by omega
          subst this
          simpa using h
    · rintro σ H5 ⟨r5, r6, rfl, s5, hall⟩
      have hmin : min (bvs ((List.range l.length).map fun j => Sp.place (l.getD j 0))).length hvs.length = l.length := by rw [bvs_len, hvl]; simp
      rw [hmin] at hall
      have e : againM c l ps = some (throughR (fun a => Sp.place (l.getD a 0)) (fun a => ps.getD a []) c.d).flatten := by
        unfold againM
        rw [if_pos]
        refine List.all_eq_true.mpr fun y hy => decide_eq_true ?_
        obtain ⟨i, hi, rfl⟩ := List.mem_iff_getElem.mp hy
        rw [List.length_zip] at hi
        have := hall i (by omega)
        rw [List.getElem_zip]
        simpa [show i < l.length by omega, show i < ps.length by omega] using this
      have k2 := k.some e
      refine ⟨z0L, fun ra hra => ?_⟩
      have s6 : Same H5 (upd H5 ra (.lst [])) := .new hra
      obtain ⟨ma, mvs, rfl, hma, hmv⟩ := hM
      refine ⟨_, rfl, ma, rfl, ⟨_, SqL.of (s6 _ _ (s5 _ _ hma))⟩, ?_⟩
      refine for_list (xs := mvs) (fun i σ H6 => ∃ r8, σ = [some (V.ref p), some (V.ref q), some (V.ref za), some (V.ref D), some (V.ref ma), r5, r6, some (V.ref ra), r8, none] ∧ Same H5 H6 ∧
        H6 ra = some (.lst (bvs ((List.range i).map fun i => (throughR (fun a => Sp.place (l.getD a 0)) (fun a => ps.getD a []) c.d).getD i []).flatten))) ?_ ?_ ?_ ?_
      · exact ⟨_, rfl, s6, upd_same⟩
      · rintro i σ H6 _ ⟨r8, rfl, s7, _⟩
        exact SqL.of (s7 _ _ (s5 _ _ hma))
      · rintro i x σ H6 e1 ⟨r8, rfl, s7, hra6⟩
        obtain ⟨hi, px, rfl, hpx⟩ := hmv.of e1
        rw [hMl] at hi
        have hel : ∀ j, j < c.d → ((throughR (fun a => Sp.place (l.getD a 0)) (fun a => ps.getD a []) c.d).getD j []).length = c.len := fun j hj => hMs _ (getD_mem' (by rw [hMl]; exact hj))
        have hfl := range_flat_len (F := fun i => (throughR (fun a => Sp.place (l.getD a 0)) (fun a => ps.getD a []) c.d).getD i []) (L := c.len) (j := i) fun j hj => hel j (by omega)
        have hjl : i * c.len ≤ 384 := Nat.le_trans (Nat.mul_le_mul (by omega) l64) (show 6 * 64 ≤ 384 by decide)
        refine ⟨_, rfl, .inl ⟨rfl, _, SqL.of hra6⟩, _, rfl, ra, px, _, _, rfl, rfl, hra6, s7 _ _ (s5 _ _ hpx), ?_, ?_⟩
        · rw [bvs_len, bvs_len, hfl, hel i hi]
          show _ ≤ 2 ^ 24
          omega
        · refine ⟨_, rfl, s7.upd hra, ?_⟩
          rw [upd_same, bvs_app, range_flat]
      · rintro σ H6 ⟨r8, rfl, s7, hra6⟩
        have s05 : Same H H5 := s14.trans s5
        refine ⟨_, rfl, k2 H6 ra (s05.trans s7) (s05.free hra) ?_⟩
        rw [hra6, hmv.1, ← Rw.list_range]
end
end Sn
end
section
set_option maxHeartbeats 4000000
namespace Sn
open PySem PySem.Spec PyProof.Rows L2
open Rw (vAt throughR ddR hornerR)
open Tld (Ok likely rightOf leftOf lower toldM againM)
open Gau (Shape)
theorem beq_dec {α : Type} [BEq α] [LawfulBEq α] [DecidableEq α] (a b : α) : (a == b) = decide (a = b) := by rw [Bool.eq_iff_iff]; simp
theorem part_vAt {c : Sp.Code} {R : List Sp.Bytes} (hR : Shape c.d c.len R) (t : Nat) : c.part R t = vAt c.len (Sp.place t) R := by
  unfold Sp.Code.part
  rw [Rw.sumOf_vAt (r := fun j => R.getD j []) fun i hi => Tld.getD_len hR hi]
  congr 1
  have := Rw.list_range [] R
  rw [hR.1] at this
  exact this.symm
theorem rowsOf_inj {L n : Nat} {a b : Sp.Bytes} (ha : a.length = n * L) (hb : b.length = n * L) : (Sp.rowsOf L n a = Sp.rowsOf L n b) ↔ a = b := by
  refine ⟨fun h => ?_, fun h => by rw [h]⟩
  have := congrArg List.flatten h
  rwa [Rw.flat_rowsOf ha, Rw.flat_rowsOf hb] at this
theorem noughts_app (a b : Nat) : Sp.noughts a ++ Sp.noughts b = Sp.noughts (a + b) := by unfold Sp.noughts; rw [List.replicate_append_replicate]
theorem only_flat {c : Sp.Code} {i : Nat} (hi : i < c.holds) {e : Sp.Bytes} (he : e.length = c.len) : (c.only i e).flatten = Sp.noughts (i * c.len) ++ e ++ Sp.noughts ((c.holds - i - 1) * c.len) := by
  unfold Sp.Code.only
  have low : ∀ j, j ≤ i → (((List.range j).map fun x => if x = i then e else Sp.noughts c.len).flatten) = Sp.noughts (j * c.len) := by
    intro j
    induction j with
    | zero => intro _; simp [Sp.noughts]
    | succ j ih =>
      intro h
      rw [range_flat, ih (by omega), if_neg (by omega), noughts_app, Nat.add_mul, Nat.one_mul]
  have high : ∀ m, (((List.range (i + 1 + m)).map fun x => if x = i then e else Sp.noughts c.len).flatten) = Sp.noughts (i * c.len) ++ e ++ Sp.noughts (m * c.len) := by
    intro m
    induction m with
    | zero => rw [Nat.add_zero, range_flat, low i (Nat.le_refl _), if_pos rfl]; simp [Sp.noughts]
    | succ m ih =>
      rw [show i + 1 + (m + 1) = (i + 1 + m) + 1 by omega, range_flat, ih, if_neg (by omega), List.append_assoc, noughts_app, Nat.add_mul, Nat.one_mul]
  have := high (c.holds - i - 1)
  rwa [show i + 1 + (c.holds - i - 1) = c.holds by omega] at this
theorem only_shape {c : Sp.Code} {i : Nat} {e : Sp.Bytes} (he : e.length = c.len) : Shape c.holds c.len (c.only i e) := by
  unfold Sp.Code.only
  refine ⟨by simp, fun r hr => ?_⟩
  obtain ⟨j, hj, rfl⟩ := List.mem_map.mp hr
  split
  · exact he
  · exact Rw.noughts_len _
theorem changed_flat {c : Sp.Code} (kd : c.k ≤ c.d) {i f : Nat} (hi : i < c.holds) {e a : Sp.Bytes} (he : e.length = c.len) (ha : a.length = c.d * c.len) :
    (c.changed f (Sp.rowsOf c.len c.d a) i e).flatten = Sp.xor a (vAt (c.d * c.len) (Sp.place f) (Tld.square c (c.only i e))) := by
  unfold Sp.Code.changed
  have h1 := Rw.rowsOf_shape (L := c.len) (n := c.d) ha
  have h2 := Tld.rows_shape kd (only_shape (c := c) (i := i) he) f
  rw [Tld.node_flat kd (only_shape he) f, ← Rw.flat_xor (by rw [h1.1, h2.1]) h1.2 h2.2, Rw.flat_rowsOf ha]
section
variable {P : Program} {w : World} {K : PySem.W.Frag} {mg : Str → Option Value} {base : Heap} {C : Addr}
theorem sc_are_agreeing : FnScope ["code", "i", "j", "rows_i", "rows_j"] ["code", "i", "j", "rows_i", "rows_j"] (defScope (top 38)) := ⟨rfl, rfl, rfl, by decide +kernel, rfl, by decide +kernel, by decide +kernel⟩
def sp_are_agreeing (C : Addr) : L2.Sp := fun vs H Q _ => ∃ (x y z : V) (c : Sp.Code) (i j : Nat) (a b : Sp.Bytes), vs = [x, nv i, nv j, y, z] ∧ IsCode C H x c ∧ IsB H y a ∧ IsB H z b ∧ Ok c ∧ i < 255 ∧ j < 255 ∧ a.length = c.d * c.len ∧ b.length = c.d * c.len ∧
  ∀ H', Same H H' → Q (.bl (c.agree i (Sp.rowsOf c.len c.d a) j (Sp.rowsOf c.len c.d b))) H'
theorem ok_are_agreeing {f : Addr} {fd : FuncData} (F : Fun K "are_agreeing" "are_agreeing" (top 38) f fd) (g_part_for : Gd P w K mg base 3 "part_for" ["code", "node", "rows"] (sp_part_for C)) :
    FnOk P w K mg base CX0 4 f fd ["code", "i", "j", "rows_i", "rows_j"] (sp_are_agreeing C) := by
  refine F.ok sc_are_agreeing (fun vs H Q E h => ?_) (fun cdv A outer s H vs Q E hr h => ?_)
  · obtain ⟨x, y, z, c, i, j, a, b, rfl, _⟩ := h
    rfl
  · obtain ⟨x, y, z, c, i, j, a, b, rfl, ⟨p, dx, rfl, hp⟩, ⟨q, rfl, hq⟩, ⟨u, rfl, hu⟩, o, hi, hj, ha, hb, k⟩ := h
    refine ⟨_, (pss_cons (ps_if (pt_cmpR op_eq (pv 1) (pv 2) (nomark _)) (pss_one (ps_ret (pe_cmpR (op_eqD hr.units) (pv 3) (pv 4) (nomark _)))) pss_nil)
      (pss_one (ps_ret (pe_cmpR (op_eqD hr.units) (pe_g g_part_for (hr.mono (by decide)) rfl (pa_cons (pv 0) (pa_cons (pv 2) (pa_cons (pv 3) pa_nil)))) (pe_g g_part_for (hr.mono (by decide)) rfl (pa_cons (pv 0) (pa_cons (pv 1) (pa_cons (pv 4) pa_nil)))) (nomark _))))), ?_⟩
    refine ⟨_, rfl, _, rfl, rfl, _, rfl, ?_⟩
    refine ite2 (fun h => ?_) (fun h => ?_)
    · have h : i = j := by have := V.int.inj (of_decide_eq_true h); omega
      refine ⟨_, rfl, _, rfl, _, _, dp_bytes hq, dp_bytes hu, bdat_shaped _, bdat_shaped _, ?_⟩
      refine qv (Q := Q) (congrArg V.bl ?_) (k H (.refl _))
      rw [bdat_eqv]
      unfold Sp.Code.agree
      rw [if_pos h]
      rw [beq_dec, decide_eq_decide, rowsOf_inj ha hb]
    · have h : i ≠ j := fun e => h (decide_eq_true (by rw [e]))
      refine ⟨_, rfl, _, rfl, _, rfl, _, _, c, j, a, rfl, ⟨p, dx, rfl, hp⟩, ⟨q, rfl, hq⟩, o, hj, ha, fun H1 a1 s1 n1 e1 => ?_⟩
      refine ⟨_, rfl, _, rfl, _, rfl, _, _, c, i, b, rfl, ⟨p, dx, rfl, s1 _ _ hp⟩, ⟨u, rfl, s1 _ _ hu⟩, o, hi, hb, fun H2 a2 s2 n2 e2 => ?_⟩
      refine ⟨_, _, dp_bytes (s2 _ _ e1), dp_bytes e2, bdat_shaped _, bdat_shaped _, ?_⟩
      refine qv (Q := Q) (congrArg V.bl ?_) (k H2 (s1.trans s2))
      rw [bdat_eqv]
      unfold Sp.Code.agree
      rw [if_neg h, part_vAt (Rw.rowsOf_shape ha), part_vAt (Rw.rowsOf_shape hb), beq_dec]
theorem sc_alone_at : FnScope ["at", "row", "count"] ["at", "row", "count"] (defScope (top 39)) := ⟨rfl, rfl, rfl, by decide +kernel, rfl, by decide +kernel, by decide +kernel⟩
def sp_alone_at : L2.Sp := fun vs H Q _ => ∃ (y : V) (i n : Nat) (b : Sp.Bytes), vs = [nv i, y, nv n] ∧ IsB H y b ∧ i < n ∧ n ≤ 36 ∧ b.length ≤ 64 ∧ RB H Q (Sp.noughts (i * b.length) ++ b ++ Sp.noughts ((n - i - 1) * b.length))
theorem ok_alone_at {f : Addr} {fd : FuncData} (F : Fun K "alone_at" "alone_at" (top 39) f fd) (B : Bi mg) : FnOk P w K mg base CX0 1 f fd ["at", "row", "count"] sp_alone_at := by
  refine F.ok sc_alone_at (fun vs H Q E h => ?_) (fun cdv A outer s H vs Q E hr h => ?_)
  · obtain ⟨y, i, n, b, rfl, _⟩ := h
    rfl
  · obtain ⟨y, i, n, b, rfl, ⟨q, rfl, hq⟩, hi, hn, hb, k⟩ := h
    have m1 : i * b.length ≤ 36 * 64 := Nat.mul_le_mul (by omega) hb
    have m2 : (n - i - 1) * b.length ≤ 36 * 64 := Nat.mul_le_mul (by omega) hb
    refine ⟨_, (pss_one (ps_ret (pe_op op_cat (pe_op op_cat (pe_op op_rep (pe_lst (pa_cons pe_int pa_nil)) (pe_op op_mul (pv 0) (pe_callB call_len_seq rfl B.len PySem.boot_len (pa_cons (pv 1) pa_nil)))) (pv 1)) (pe_op op_rep (pe_lst (pa_cons pe_int pa_nil)) (pe_op op_mul (pe_op op_sub (pe_op op_sub (pv 2) (pv 0)) pe_int) (pe_callB call_len_seq rfl B.len PySem.boot_len (pa_cons (pv 1) pa_nil))))))), ?_⟩
    refine ⟨z1L, fun l1 hl1 => ?_⟩
    have s1 : Same H (upd H l1 (.lst [V.int 0])) := .new hl1
    refine ⟨_, rfl, _, rfl, q, _, rfl, .inl (SqL.of (s1 _ _ hq)), _, _, rfl, rfl, .inl ⟨by omega, by omega⟩, ?_⟩
    rw [bvs_len]
    dsimp only
    rw [mul_nat]
    refine ⟨l1, _, _, rfl, rfl, upd_same, by omega, by omega, by show 1 * _ ≤ 2 ^ 24; omega, fun l2 hl2 => ?_⟩
    rw [rep_noughts, Int.toNat_natCast]
    have s2 := s1.trans (.new (o := .lst (bvs (Sp.noughts (i * b.length)))) hl2)
    refine ⟨_, rfl, l2, q, _, _, rfl, rfl, upd_same, s2 _ _ hq, by rw [bvs_len, bvs_len, Rw.noughts_len]; show _ ≤ 2 ^ 24; omega, fun l3 hl3 => ?_⟩
    rw [bvs_app]
    have s3 := s2.trans (.new (o := .lst (bvs (Sp.noughts (i * b.length) ++ b))) hl3)
    refine ⟨z1L, fun l4 hl4 => ?_⟩
    have s34 := (Same.new (o := .lst [V.int 0]) hl4)
    have s4 := s3.trans s34
    refine ⟨_, rfl, _, rfl, _, _, rfl, rfl, _, _, rfl, rfl, _, rfl, q, _, rfl, .inl (SqL.of (s4 _ _ hq)), _, _, rfl, rfl, .inl ⟨by omega, by omega⟩, ?_⟩
    rw [bvs_len]
    dsimp only
    rw [show ((n : Int) - (i : Int) - 1) * (b.length : Int) = (((n - i - 1) * b.length : Nat) : Int) by rw [← mul_nat, show ((n : Int) - (i : Int) - 1) = ((n - i - 1 : Nat) : Int) by omega]]
    refine ⟨l4, _, _, rfl, rfl, upd_same, by omega, by omega, by show 1 * _ ≤ 2 ^ 24; omega, fun l5 hl5 => ?_⟩
    rw [rep_noughts, Int.toNat_natCast]
    have s45 := (Same.new (o := .lst (bvs (Sp.noughts ((n - i - 1) * b.length)))) hl5)
    have s5 := s4.trans s45
    refine ⟨l3, l5, _, _, rfl, rfl, s45 _ _ (s34 _ _ upd_same), upd_same, by rw [bvs_len, bvs_len, List.length_append, Rw.noughts_len, Rw.noughts_len]; show _ ≤ 2 ^ 24; omega, fun l6 hl6 => ?_⟩
    exact k _ l6 (s5.trans (.new hl6)) (s5.free hl6) (by rw [upd_same, bvs_app])
theorem sc_changed_rows : FnScope ["code", "node", "rows", "i", "difference", "document"] ["code", "node", "rows", "i", "difference"] (defScope (top 40)) := ⟨rfl, rfl, rfl, by decide +kernel, rfl, by decide +kernel, by decide +kernel⟩
def sp_changed_rows (C : Addr) : L2.Sp := fun vs H Q _ => ∃ (x y z : V) (c : Sp.Code) (f i : Nat) (a e : Sp.Bytes), vs = [x, nv f, y, nv i, z] ∧ IsCode C H x c ∧ IsB H y a ∧ IsB H z e ∧ Ok c ∧ f < 255 ∧ i < c.holds ∧ a.length = c.d * c.len ∧ e.length = c.len ∧
  RB H Q (c.changed f (Sp.rowsOf c.len c.d a) i e).flatten
theorem ok_changed_rows {f : Addr} {fd : FuncData} (F : Fun K "changed_rows" "changed_rows" (top 40) f fd) (g_alone_at : Gd P w K mg base 1 "alone_at" ["at", "row", "count"] sp_alone_at) (g_document_rows : Gd P w K mg base 2 "document_rows" ["code"] (sp_document_rows C))
    (g_plus : Gd P w K mg base 1 "plus" ["row", "other"] sp_plus) (g_square_of : Gd P w K mg base 2 "square_of" ["code", "document"] (sp_square_of C)) (g_rows_of_node : Gd P w K mg base 3 "rows_of_node" ["square", "node"] sp_rows_of_node) :
    FnOk P w K mg base CX0 4 f fd ["code", "node", "rows", "i", "difference"] (sp_changed_rows C) := by
  refine F.ok sc_changed_rows (fun vs H Q E h => ?_) (fun cdv A outer s H vs Q E hr h => ?_)
  · obtain ⟨x, y, z, c, f, i, a, e, rfl, _⟩ := h
    rfl
  · obtain ⟨x, y, z, c, f, i, a, e, rfl, ⟨p, dx, rfl, hp⟩, ⟨q, rfl, hq⟩, ⟨u, rfl, hu⟩, o, hf, hi, ha, he, k⟩ := h
    have hdl := d_len_le o
    have hof := only_flat hi he
    have hol : (c.only i e).flatten.length = c.holds * c.len := by rw [Rw.flat_len (only_shape (i := i) he).2, (only_shape (i := i) he).1]
    have hor : Sp.rowsOf c.len c.holds (c.only i e).flatten = c.only i e := Rw.rowsOf_flat (only_shape he)
    refine ⟨_, (pss_cons (ps_set (i := 5) sc_changed_rows.nd rfl (Or.inl rfl) (pe_g g_alone_at (hr.mono (by decide)) rfl (pa_cons (pv 3) (pa_cons (pv 4) (pa_cons (pe_g g_document_rows (hr.mono (by decide)) rfl (pa_cons (pv 0) pa_nil)) pa_nil)))))
      (pss_one (ps_ret (pe_g g_plus (hr.mono (by decide)) rfl (pa_cons (pv 2) (pa_cons (pe_g g_rows_of_node (hr.mono (by decide)) rfl (pa_cons (pe_g g_square_of (hr.mono (by decide)) rfl (pa_cons (pv 0) (pa_cons (pv 5) pa_nil))) (pa_cons (pv 1) pa_nil))) pa_nil)))))), ?_⟩
    refine ⟨_, rfl, _, rfl, _, rfl, _, c, rfl, ⟨p, dx, rfl, hp⟩, o, ?_⟩
    refine ⟨_, i, c.holds, e, rfl, ⟨u, rfl, hu⟩, hi, holds_le o, by rw [he]; exact o.l64, fun H1 a1 s1 n1 e1 => ?_⟩
    rw [he, ← hof] at e1
    refine ⟨_, rfl, _, rfl, _, rfl, _, _, c, _, rfl, ⟨p, dx, rfl, s1 _ _ hp⟩, ⟨a1, rfl, e1⟩, o, hol, fun H2 v2 s2 hsq => ?_⟩
    have hS := square_shape o hol
    rw [hor] at hsq hS
    refine ⟨_, rfl, _, _, f, c.d * c.len, rfl, hsq, by rw [hS.1]; have := o.k1; have := o.kd; omega, hS.2, by omega, hf, fun H3 a3 s3 n3 e3 => ?_⟩
    have s13 := (s1.trans s2).trans s3
    refine ⟨_, _, a, _, rfl, ⟨q, rfl, s13 _ _ hq⟩, ⟨a3, rfl, e3⟩, by omega, fun H4 a4 s4 n4 e4 => ?_⟩
    rw [← changed_flat o.kd hi he ha] at e4
    exact k H4 a4 (s13.trans s4) (s13.free n4) e4
end
end Sn
end
section
namespace Sn
open Rw (vAt)
open Tld (Ok likely toldM)
open Gau (Shape)
theorem filter_one {l : List Nat} (hn : l.Nodup) {w : Nat} (hw : w ∈ l) : l.filter (fun f => f == w) = [w] := by
  induction l with
  | nil => cases hw
  | cons a l ih =>
    obtain ⟨h1, h2⟩ := List.nodup_cons.mp hn
    rw [List.filter_cons]
    by_cases h : a = w
    · subst h
      rw [if_pos (by simp)]
      congr 1
      rw [List.filter_eq_nil_iff]
      intro b hb e
      have : b = a := by simpa using e
      exact h1 (this ▸ hb)
    · rw [if_neg (by simpa using h)]
      exact ih h2 (by rcases List.mem_cons.mp hw with e | e; exact absurd e.symm h; exact e)
theorem filter_both (p : Nat → Bool) : ∀ l : List Nat, l.length = (l.filter p).length + (l.filter fun f => !p f).length
  | [] => rfl
  | a :: l => by
    have ih := filter_both p l
    rw [List.filter_cons, List.filter_cons]
    cases h : p a
    · simp; omega
    · simp; omega
theorem zip_fst {l : List Nat} {held : List Sp.Bytes} (h : held.length = l.length) : (l.zip held).map Prod.fst = l := by
  rw [List.map_fst_zip]
  omega
theorem apart_one {l : List Nat} {held : List Sp.Bytes} (h : held.length = l.length) (hn : l.Nodup) {w : Nat} (hw : w ∈ l) {p : Nat × Sp.Bytes → Bool} (hp : ∀ q ∈ l.zip held, p q = (q.1 == w)) : ((l.zip held).filter p).map Prod.fst = [w] := by
  rw [List.filter_congr hp]
  have e := List.filter_map (f := Prod.fst) (p := fun f => f == w) (l := l.zip held)
  rw [zip_fst h, filter_one hn hw] at e
  exact e.symm
theorem zip_mem {l : List Nat} {held : List Sp.Bytes} (h : held.length = l.length) {q : Nat × Sp.Bytes} : q ∈ l.zip held ↔ ∃ i, i < l.length ∧ q = (l.getD i 0, held.getD i []) := by
  rw [List.mem_iff_getElem]
  constructor
  · rintro ⟨i, hi, rfl⟩
    rw [List.length_zip] at hi
    refine ⟨i, by omega, ?_⟩
    rw [List.getElem_zip]
    simp [show i < l.length by omega, show i < held.length by omega]
  · rintro ⟨i, hi, rfl⟩
    refine ⟨i, by rw [List.length_zip]; omega, ?_⟩
    rw [List.getElem_zip]
    simp [hi, show i < held.length by omega]
section
variable {c : Sp.Code} (o : Ok c) {l : List Nat} (hn : l.Nodup) (h9 : ∀ f ∈ l, f < 9) {held : List Sp.Bytes} (hh : Shape l.length (c.d * c.len) held) {rows : Nat → List Sp.Bytes} (hr : ∀ i, i < l.length → rows (l.getD i 0) = Sp.rowsOf c.len c.d (held.getD i []))
  (hl : c.k < l.length) (ht : c.told l rows = none)
  {O : List Nat} (oO : O.length = c.k) (nO : O.Nodup) (lO : ∀ a ∈ O, a < l.length)
include o hn h9 hh hr hl ht oO nO lO
theorem rows_shape' : ∀ f ∈ l, Shape c.d c.len (rows f) := fun f hf => by
  obtain ⟨i, hi, rfl⟩ := List.mem_iff_getElem.mp hf
  have e := hr i hi
  rw [List.getD_eq_getElem?_getD, List.getElem?_eq_getElem hi] at e
  show Shape c.d c.len (rows l[i])
  rw [show rows l[i] = Sp.rowsOf c.len c.d (held.getD i []) from e]
  exact Rw.rowsOf_shape (Tld.getD_len hh hi)
theorem apart_iff {w : Nat} (hw : w ∈ l) (hO : ∀ a ∈ O, l.getD a 0 ≠ w) :
    (c.told (l.filter fun f => f != w) rows).isSome = true ↔ apartM c l held (likely c (fun a => Sp.place (l.getD (O.getD a 0) 0)) fun a => held.getD (O.getD a 0) []) = [w] := by
  have hS := rows_shape' o hn h9 hh hr hl ht oO nO lO
  have hgO : ∀ a, a < c.k → O.getD a 0 ∈ O := fun a ha => Tld.getD_mem (by omega)
  have hgl : ∀ i, i < l.length → (held.getD i []).length = c.d * c.len := fun i hi => Tld.getD_len hh hi
  have hfl : ∀ i, i < l.length → (rows (l.getD i 0)).flatten = held.getD i [] := fun i hi => by rw [hr i hi, Rw.flat_rowsOf (hgl i hi)]
  have hlen : c.k ≤ (l.filter fun f => f != w).length := by
    have h1 := filter_both (fun f => f == w) l
    rw [filter_one hn hw] at h1
    have e : (l.filter fun f => f != w) = l.filter fun f => !(f == w) := rfl
    rw [e]
    simp only [List.length_singleton] at h1
    omega
  have hsub : ∀ f ∈ l.filter (fun f => f != w), f ∈ l ∧ f ≠ w := fun f hf => by
    obtain ⟨h1, h2⟩ := List.mem_filter.mp hf
    exact ⟨h1, by simpa using h2⟩
  have hS' : ∀ f ∈ l.filter (fun f => f != w), Shape c.d c.len (rows f) := fun f hf => hS f (hsub f hf).1
  have hn' : (l.filter fun f => f != w).Nodup := hn.sublist List.filter_sublist
  have h9' : ∀ f ∈ l.filter (fun f => f != w), f < 9 := fun f hf => h9 f (hsub f hf).1
  constructor
  · intro h
    obtain ⟨X, hX⟩ := Option.isSome_iff_exists.mp h
    obtain ⟨sX, rX⟩ := Tld.told_some o.kd hS' hX
    have rX' : ∀ f ∈ l, f ≠ w → c.rows X f = rows f := fun f hf hfw => rX f (List.mem_filter.mpr ⟨hf, by simpa using hfw⟩)
    have hin : ∀ a, a < c.k → l.getD (O.getD a 0) 0 ∈ l := fun a ha => Tld.getD_mem (lO _ (hgO a ha))
    have hpn : ∀ i j, i < c.k → j < c.k → i ≠ j → Sp.place (l.getD (O.getD i 0) 0) ≠ Sp.place (l.getD (O.getD j 0) 0) := fun i j hi hj hij e => by
      have e2 := Tld.place_inj (by have := h9 _ (hin i hi); omega) (by have := h9 _ (hin j hj); omega) e
      exact Tld.getD_inj hn (lO _ (hgO i hi)) (lO _ (hgO j hj)) (Tld.getD_inj nO (by omega) (by omega) hij) e2
    have hlk := Tld.likely_of o.kd sX (p := fun a => Sp.place (l.getD (O.getD a 0) 0)) hpn (nd := fun a => l.getD (O.getD a 0) 0) (fun _ _ => rfl) (h := fun a => held.getD (O.getD a 0) [])
      (fun a ha => by rw [rX' _ (hin a ha) (hO _ (hgO a ha)), hfl _ (lO _ (hgO a ha))]) o.k1
    rw [hlk]
    unfold apartM
    rw [Rw.rowsOf_flat sX]
    refine apart_one hh.1 hn hw fun q hq => ?_
    obtain ⟨i, hi, rfl⟩ := (zip_mem hh.1).mp hq
    have hil : l.getD i 0 ∈ l := Tld.getD_mem hi
    show (!decide (vAt (c.d * c.len) (Sp.place (l.getD i 0)) (Tld.square c X) = held.getD i [])) = (l.getD i 0 == w)
    rw [Tld.node_flat o.kd sX]
    by_cases hw2 : l.getD i 0 = w
    · have hne : ¬ ((c.rows X (l.getD i 0)).flatten = held.getD i []) := fun e => by
        rw [← hfl i hi] at e
        have e3 := Rw.shape_flat_inj (Tld.rows_shape o.kd sX _) (hS _ hil) e
        have := Tld.told_one o.k1 o.kd hn h9 (by omega) hS sX fun f hf => by
          by_cases hf2 : f = w
          · rw [hf2, ← hw2]; exact e3
          · exact rX' f hf hf2
        rw [ht] at this
        cases this
      rw [decide_eq_false hne]
      simp only [beq_iff_eq, hw2, Bool.not_false, beq_self_eq_true]
    · have he : (c.rows X (l.getD i 0)).flatten = held.getD i [] := by rw [rX' _ hil hw2, hfl i hi]
      rw [decide_eq_true he]
      symm
      simpa using hw2
  · intro h
    have hll := Tld.likely_len o.k1 o.kd (fun a => Sp.place (l.getD (O.getD a 0) 0)) (h := fun a => held.getD (O.getD a 0) []) fun a ha => hgl _ (lO _ (hgO a ha))
    have sX := Rw.rowsOf_shape (L := c.len) (n := c.holds) hll
    have := Tld.told_one o.k1 o.kd hn' h9' hlen hS' sX fun f hf => by
      obtain ⟨h1, h2⟩ := hsub f hf
      obtain ⟨i, hi, hif⟩ := List.mem_iff_getElem.mp h1
      have hif : l.getD i 0 = f := by rw [List.getD_eq_getElem?_getD, List.getElem?_eq_getElem hi]; exact hif
      subst hif
      have hno : ¬ (l.getD i 0, held.getD i []) ∈ (l.zip held).filter fun q => !decide (vAt (c.d * c.len) (Sp.place q.1) (Tld.square c (Sp.rowsOf c.len c.holds (likely c (fun a => Sp.place (l.getD (O.getD a 0) 0)) fun a => held.getD (O.getD a 0) []))) = q.2) := fun hm => by
        have h3 : l.getD i 0 ∈ apartM c l held (likely c (fun a => Sp.place (l.getD (O.getD a 0) 0)) fun a => held.getD (O.getD a 0) []) := List.mem_map.mpr ⟨_, hm, rfl⟩
        rw [h] at h3
        exact h2 (by simpa using h3)
      rw [List.mem_filter] at hno
      have h4 : vAt (c.d * c.len) (Sp.place (l.getD i 0)) (Tld.square c (Sp.rowsOf c.len c.holds (likely c (fun a => Sp.place (l.getD (O.getD a 0) 0)) fun a => held.getD (O.getD a 0) []))) = held.getD i [] := by
        have h5 : (l.getD i 0, held.getD i []) ∈ l.zip held := (zip_mem hh.1).mpr ⟨i, hi, rfl⟩
        by_cases h6 : vAt (c.d * c.len) (Sp.place (l.getD i 0)) (Tld.square c (Sp.rowsOf c.len c.holds (likely c (fun a => Sp.place (l.getD (O.getD a 0) 0)) fun a => held.getD (O.getD a 0) []))) = held.getD i []
        · exact h6
        · exact absurd ⟨h5, by simpa using h6⟩ hno
      rw [Tld.node_flat o.kd sX, ← hfl i hi] at h4
      exact Rw.shape_flat_inj (Tld.rows_shape o.kd sX _) (hS _ (Tld.getD_mem hi)) h4
    rw [this]
    rfl
theorem group_eq {G : List Nat} (nG : G.Nodup) (sG : ∀ w ∈ G, w ∈ l) (hO : ∀ a ∈ O, l.getD a 0 ∉ G) :
    (G.filter fun w => (c.told (l.filter fun f => f != w) rows).isSome) =
      if (apartM c l held (likely c (fun a => Sp.place (l.getD (O.getD a 0) 0)) fun a => held.getD (O.getD a 0) [])).length = 1 ∧ (apartM c l held (likely c (fun a => Sp.place (l.getD (O.getD a 0) 0)) fun a => held.getD (O.getD a 0) [])).getD 0 0 ∈ G
      then [(apartM c l held (likely c (fun a => Sp.place (l.getD (O.getD a 0) 0)) fun a => held.getD (O.getD a 0) [])).getD 0 0] else [] := by
  have key := fun w (hw : w ∈ G) => apart_iff o hn h9 hh hr hl ht oO nO lO (sG w hw) (fun a ha e => hO a ha (e ▸ hw))
  split
  · rename_i h
    obtain ⟨h1, h2⟩ := h
    have e : apartM c l held (likely c (fun a => Sp.place (l.getD (O.getD a 0) 0)) fun a => held.getD (O.getD a 0) []) = [(apartM c l held (likely c (fun a => Sp.place (l.getD (O.getD a 0) 0)) fun a => held.getD (O.getD a 0) [])).getD 0 0] := by
      obtain ⟨x, hx⟩ := List.length_eq_one_iff.mp h1
      rw [hx]
      rfl
    rw [← filter_one nG h2]
    refine List.filter_congr fun w hw => ?_
    rw [Bool.eq_iff_iff, key w hw, e]
    simp only [List.getD_cons_zero, beq_iff_eq, List.cons.injEq, and_true]
    exact ⟨fun h => h.symm, fun h => h.symm⟩
  · rename_i h
    rw [List.filter_eq_nil_iff]
    intro w hw h2
    have e := (key w hw).mp h2
    exact h ⟨by rw [e]; rfl, by rw [e]; exact hw⟩
end
theorem out_count (s g : Nat) : ∀ n, ((List.range n).filter fun a => !(decide (s ≤ a) && decide (a < s + g))).length = n - min g (n - s)
  | 0 => by simp
  | n + 1 => by
    rw [List.range_succ, List.filter_append, List.length_append, out_count s g n]
    by_cases h : (!(decide (s ≤ n) && decide (n < s + g))) = true
    · rw [List.filter_cons, if_pos h]
      have h : ¬ (s ≤ n ∧ n < s + g) := by
        simp at h
        omega
      simp only [List.filter_nil, List.length_singleton]
      omega
    · rw [List.filter_cons, if_neg h]
      have h : s ≤ n ∧ n < s + g := by
        simp at h
        omega
      simp only [List.filter_nil, List.length_nil]
      omega
theorem chunk_mem {l : List Nat} (hn : l.Nodup) {s g a : Nat} (ha : a < l.length) : l.getD a 0 ∈ (l.drop s).take g ↔ s ≤ a ∧ a < s + g := by
  have e : l.getD a 0 = l[a] := by rw [List.getD_eq_getElem?_getD, List.getElem?_eq_getElem ha]; rfl
  rw [e]
  constructor
  · intro h
    obtain ⟨j, hj, hjl⟩ := List.mem_iff_getElem.mp h
    rw [List.length_take, List.length_drop] at hj
    rw [List.getElem_take, List.getElem_drop] at hjl
    have := (List.getElem_inj hn).mp hjl
    omega
  · rintro ⟨h1, h2⟩
    refine List.mem_iff_getElem.mpr ⟨a - s, by rw [List.length_take, List.length_drop]; omega, ?_⟩
    rw [List.getElem_take, List.getElem_drop]
    congr 1
    omega
theorem outside_eq {l : List Nat} (hn : l.Nodup) (s g : Nat) : ((List.range l.length).filter fun a => !decide (l.getD a 0 ∈ (l.drop s).take g)) = (List.range l.length).filter fun a => !(decide (s ≤ a) && decide (a < s + g)) := by
  refine List.filter_congr fun a ha => ?_
  have ha : a < l.length := by simpa using ha
  congr 1
  rw [Bool.eq_iff_iff]
  simp only [decide_eq_true_eq, Bool.and_eq_true]
  exact chunk_mem hn ha
theorem outside_len {l : List Nat} (hn : l.Nodup) {s g k : Nat} (hk : g + k ≤ l.length) : (((List.range l.length).filter fun a => !decide (l.getD a 0 ∈ (l.drop s).take g)).take k).length = k := by
  rw [List.length_take, outside_eq hn, out_count]
  omega
theorem outside_nodup {l : List Nat} {p : Nat → Bool} {k : Nat} : (((List.range l.length).filter p).take k).Nodup := (List.nodup_range.sublist List.filter_sublist).sublist (List.take_sublist _ _)
theorem outside_mem {l : List Nat} {p : Nat → Bool} {k a : Nat} (h : a ∈ ((List.range l.length).filter p).take k) : a < l.length ∧ p a = true := by
  obtain ⟨h1, h2⟩ := List.mem_filter.mp (List.mem_of_mem_take h)
  exact ⟨by simpa using h1, h2⟩
theorem take_chunk {l : List Nat} (g i : Nat) : l.take (g * (i + 1)) = l.take (g * i) ++ (l.drop (g * i)).take g := by rw [Nat.mul_add, Nat.mul_one, List.take_add]
end Sn
end
section
set_option maxHeartbeats 4000000
namespace Sn
open PySem PySem.Spec PyProof.Rows L2
open Rw (vAt throughR)
open Tld (Ok likely toldM againM)
open Gau (Shape)
section
variable {P : Program} {w : World} {K : PySem.W.Frag} {mg : Str → Option Value} {base : Heap} {C : Addr}
theorem rgc_ceil {L n : Nat} (hL : 1 ≤ L) (hL2 : L ≤ 65536) (hn : n ≤ 65536) : RgC 0 (n : Int) (L : Int) ((n + L - 1) / L) := by
  have e : Builtin.Range.rangeSize 0 (n : Int) (L : Int) = (((n + L - 1) / L : Nat) : Int) := by
    unfold Builtin.Range.rangeSize
    rw [if_pos (by omega)]
    by_cases h0 : n = 0
    · subst h0
      rw [if_neg (by omega), Nat.div_eq_of_lt (by omega)]
      rfl
    · rw [if_pos (by omega)]
      have e2 : (n : Int) - 0 - 1 = ((n - 1 : Nat) : Int) := by omega
      rw [e2, ← Int.natCast_ediv]
      rw [show n + L - 1 = (n - 1) + L by omega, Nat.add_div_right _ (by omega)]
      omega
  have hm2 : (n + L - 1) / L ≤ n + L - 1 := Nat.div_le_self _ _
  generalize (n + L - 1) / L = m at e hm2 ⊢
  refine ⟨by omega, by omega, ?_, e⟩
  unfold Builtin.Range.small
  rw [e]
  rw [if_pos (show (L : Int) > 0 by omega)]
  simp only [Builtin.Range.rangeFitsLong, Bool.and_eq_true, Bool.or_eq_true, decide_eq_true_eq, beq_iff_eq]
  omega
theorem ceil_mul {L n : Nat} (hL : 1 ≤ L) : n ≤ (n + L - 1) / L * L := by
  have := Nat.div_add_mod (n + L - 1) L
  have h2 := Nat.mod_lt (n + L - 1) (show 0 < L by omega)
  rw [Nat.mul_comm] at this
  omega
def sp_cutN : L2.Sp := fun vs H Q _ => ∃ (x : V) (l : List Nat) (z : Int) (L : Nat), vs = [x, .int z] ∧ z = (L : Int) ∧ IsN H x l ∧ 1 ≤ L ∧ L ≤ 65536 ∧ l.length ≤ 65536 ∧
  ∀ (H' : Hp) (a : Addr) (gvs : List V), Same H H' → H a = none → H' a = some (.lst gvs) → l.length ≤ gvs.length * L → (∀ j v, gvs[j]? = some v → ∃ b, v = .ref b ∧ H b = none ∧ H' b = some (.lst (nvs ((l.drop (L * j)).take L)))) → Q (.ref a) H'
theorem ok_cutN {f : Addr} {fd : FuncData} (F : Fun K "cut" "cut" (top 8) f fd) (B : Bi mg) : FnOk P w K mg base CX0 1 f fd ["row", "length"] sp_cutN := by
  refine F.ok sc_cut (fun vs H Q E h => ?_) (fun cdv A outer s H vs Q E hr h => ?_)
  · obtain ⟨x, l, z, L, rfl, _⟩ := h
    rfl
  · obtain ⟨x, l, z, L, rfl, rfl, ⟨p, rfl, hp⟩, hL, hL2, hl, k⟩ := h
    refine ⟨_, (pss_one (ps_ret (pe_lc (g := (gName 2)) (te := (tSl (rSlL K) (tVar 0) (tPart (tVar 2)) (tPart (tOp (rI0 fun i j => .int (i + j)) (tVar 2) (tVar 1))))) (own := [("start", 2)]) rfl sc_cut.nd (pi_range3 rfl B.range (pa_cons pe_int (pa_cons (pe_callB call_len_seq rfl B.len PySem.boot_len (pa_cons (pv 0) pa_nil)) (pa_cons (pv 1) pa_nil)))) (blkOk_by (by rfl)) (fun s H C cl fp => (pg_name (i := 2) sc_cut.nd rfl (Or.inl rfl) (Or.inr rfl))) (fun s H C cl fp => pts_nil) (fun s H C cl fp => (pe_slice sl_list (pv 0) (po_some (pv 2)) (po_some (pe_op op_add (pv 2) (pv 1)))))))), ?_⟩
    refine ⟨_, rfl, p, _, rfl, .inl (SqL.of hp), _, rfl, _, _, _, (l.length + L - 1) / L, rfl, ?_, fun D hD => ?_⟩
    · rw [nvs_len]
      exact rgc_ceil hL hL2 hl
    have hm2 : (l.length + L - 1) / L ≤ l.length + L - 1 := Nat.div_le_self _ _
    refine lc_rangeC (Acc H D fun j y G => ∃ q, y = .ref q ∧ H q = none ∧ G q = some (.lst (nvs ((l.drop (L * j)).take L)))) (Acc.start hD) (fun j H1 hj z => ?_) (fun H1 z => ?_)
    · refine ⟨rfl, _, rfl, _, rfl, _, rfl, _, rfl, _, rfl, _, _, rfl, rfl, _, rfl, p, _, rfl, SqL.of (z.same _ _ hp), fun q hq => ?_⟩
      have e : cutV (nvs l) (some (0 + ((j : Nat) : Int) * (L : Int))) (some (0 + ((j : Nat) : Int) * (L : Int) + (L : Int))) = nvs ((l.drop (L * j)).take L) := by
        have e1 : (0 + ((j : Nat) : Int) * (L : Int)) = ((L * j : Nat) : Int) := by rw [Int.natCast_mul, Int.mul_comm]; omega
        have e2 : (0 + ((j : Nat) : Int) * (L : Int) + (L : Int)) = ((L * j + L : Nat) : Int) := by rw [e1]; omega
        rw [e2, e1, cut_both _ (by omega), nvs_drop, nvs_take, Nat.add_sub_cancel_left]
      obtain ⟨ys, g1, g2, g3⟩ := z.ex
      have ne : q ≠ D := fun q2 => by rw [q2, g1] at hq; cases hq
      have hq0 : H q = none := z.same.free hq
      exact Acc.push (fun _ _ _ _ s ⟨q, e1, e2, e3⟩ => ⟨q, e1, e2, s _ _ e3⟩) hD z (.new hq) ⟨q, rfl, hq0, hid_at (upd_same.trans (congrArg (fun z => some (HO.lst z)) e)) ne⟩ (by omega)
    · obtain ⟨ys, g1, g2, g3⟩ := z.ex
      refine k H1 D ys z.same hD g1 (by rw [g2]; exact ceil_mul hL) fun j v e => ?_
      obtain ⟨q, e1, e2, e3⟩ := g3 j v e
      exact ⟨q, e1, e2, hid_same _ _ _ _ e3⟩
theorem lc_enum {K : PySem.W.Frag} {a : Addr} {xs : List V} {g : TG} {tt : TT} {te : TE} {vs : List Nat} {σ : L2.St} {H1 : Hp} {D : Addr} {Qd : Hp → Prop} (Pv : Nat → Hp → Prop) (h0 : Pv 0 (upd H1 D (.lst [])))
    (hl : ∀ i H, Pv i H → SqL K H a xs)
    (hs : ∀ i x H T, xs[i]? = some x → Pv i H → H T = none → g (.ref T) (wipe σ vs) (upd H T (.tup [.int (i : Nat), x])) fun σ2 H2 => wipe σ2 vs = wipe σ vs ∧ tt σ2 H2 fun b H3 =>
      if b = true then te σ2 H3 fun y H4 => ∃ acc, H4 D = some (.lst acc) ∧ acc.length < sizeLine ∧ Pv (i + 1) (upd H4 D (.lst (acc ++ [y]))) else Pv (i + 1) H3) (hd : ∀ H, Pv xs.length H → Qd H) :
    ∃ W : Nat → Nat → Hp → Prop, (∃ m, W 0 m (upd H1 D (.lst []))) ∧ ∀ i m H, W i m H →
      ((Ite K a).stop i H ∧ Qd H) ∨ ((Ite K a).go i H ∧ ∃ Nx : Hp → Prop, (∀ H', Nx H' → ∃ m', m' < m ∧ W (i + 1) m' H') ∧ ∀ x H', (Ite K a).yld i H x H' → g x (wipe σ vs) H' fun σ2 H2 => wipe σ2 vs = wipe σ vs ∧ tt σ2 H2 fun b H3 =>
        if b = true then te σ2 H3 fun y H4 => ∃ acc, H4 D = some (.lst acc) ∧ acc.length < sizeLine ∧ Nx (upd H4 D (.lst (acc ++ [y]))) else Nx H3) := by
  refine ⟨fun i m H => m = xs.length - i ∧ i ≤ xs.length ∧ Pv i H, ⟨xs.length, by simp, Nat.zero_le _, h0⟩, ?_⟩
  rintro i m H ⟨rfl, hi, p⟩
  have qa := hl i H p
  by_cases hlt : i < xs.length
  · refine .inr ⟨⟨xs, xs[i], qa, by simp [hlt]⟩, Pv (i + 1), fun H' p' => ⟨xs.length - (i + 1), by omega, rfl, hlt, p'⟩, fun x H' y => ?_⟩
    obtain ⟨T, x1, rfl, hT, rfl, e1⟩ := y
    exact hs i x1 H T (e1 xs qa) p hT
  · have e : i = xs.length := by omega
    refine .inl ⟨⟨xs, qa, by omega⟩, ?_⟩
    rw [e] at p
    exact hd H p
theorem nvs_flat (l : List Nat) : (nvs l).all flatV = true := by
  unfold nvs
  rw [List.all_map, List.all_eq_true]
  intro x _
  rfl
theorem nv_in (n : Nat) (l : List Nat) : inV (nv n) (nvs l) = decide (n ∈ l) := by
  unfold inV nvs
  rw [List.any_map, Bool.eq_iff_iff, List.any_eq_true, decide_eq_true_eq]
  constructor
  · rintro ⟨x, hx, e⟩
    have e : x = n := by
      have e : ((x : Int) == (n : Int)) = true := e
      have := beq_iff_eq.mp e
      omega
    exact e ▸ hx
  · intro h
    refine ⟨n, h, ?_⟩
    show ((n : Int) == (n : Int)) = true
    simp
end
end Sn
end
section
set_option maxHeartbeats 4000000
namespace Sn
open PySem PySem.Spec PyProof.Rows L2
open Rw (vAt throughR)
open Tld (Ok likely toldM againM)
open Gau (Shape)
section
variable {P : Program} {w : World} {K : PySem.W.Frag} {mg : Str → Option Value} {base : Heap} {C : Addr}
theorem filter_range_succ (p : Nat → Bool) (j : Nat) : (List.range (j + 1)).filter p = (List.range j).filter p ++ if p j = true then [j] else [] := by
  rw [List.range_succ, List.filter_append, List.filter_cons, List.filter_nil]
theorem nodup_range_map {f : Nat → Nat} {n : Nat} (h : ∀ i j, i < n → j < n → i ≠ j → f i ≠ f j) : ((List.range n).map f).Nodup := by
  refine List.pairwise_iff_getElem.mpr fun i j hi hj hij => ?_
  rw [List.getElem_map, List.getElem_map, List.getElem_range, List.getElem_range]
  exact h i j (by simpa using hi) (by simpa using hj) (by omega)
theorem sc_wrong_nodes : FnScope ["code", "nodes", "held", "wrong_ones", "group", "outside", "document", "apart", "at", "node"] ["code", "nodes", "held"] (defScope (top 41)) := ⟨rfl, rfl, rfl, by decide +kernel, rfl, by decide +kernel, by decide +kernel⟩
def sp_wrong_nodes (C : Addr) : L2.Sp := fun vs H Q _ => ∃ (x y z : V) (c : Sp.Code) (l : List Nat) (held : List Sp.Bytes) (rows : Nat → List Sp.Bytes), vs = [x, y, z] ∧ IsCode C H x c ∧ IsN H y l ∧ IsR H z held ∧ Ok c ∧ c.k < l.length ∧ l.length ≤ 9 ∧ l.Nodup ∧ (∀ f ∈ l, f < 9) ∧ Shape l.length (c.d * c.len) held ∧
  (∀ i, i < l.length → rows (l.getD i 0) = Sp.rowsOf c.len c.d (held.getD i [])) ∧ c.told l rows = none ∧
  RN H Q (l.filter fun w => (c.told (l.filter fun f => f != w) rows).isSome)
theorem ok_wrong_nodes {f : Addr} {fd : FuncData} (F : Fun K "wrong_nodes" "wrong_nodes" (top 41) f fd) (B : Bi mg) (T : Cc K C) (g_cut : Gd P w K mg base 1 "cut" ["row", "length"] sp_cutN) (g_likely_document : Gd P w K mg base 4 "likely_document" ["code", "nodes", "held"] (sp_likely_document C)) (g_nodes_apart : Gd P w K mg base 4 "nodes_apart" ["code", "nodes", "held", "document"] (sp_nodes_apart C)) :
    FnOk P w K mg base CX0 5 f fd ["code", "nodes", "held"] (sp_wrong_nodes C) := by
  refine F.ok sc_wrong_nodes (fun vs H Q E h => ?_) (fun cdv A outer s H vs Q E hr h => ?_)
  · obtain ⟨x, y, z, c, l, held, rows, rfl, _⟩ := h
    rfl
  · obtain ⟨x, y, z, c, l, held, rows, rfl, ⟨p, dx, rfl, hp⟩, ⟨q, rfl, hq⟩, ⟨za, hvs, rfl, hza, hhv⟩, o, hkl, h10, hn, h9, hS, hrows, ht, k⟩ := h
    have k1 := o.k1
    have hvl : hvs.length = l.length := by rw [hhv.1]; exact hS.1
    refine ⟨_, (pss_cons (ps_set (i := 3) sc_wrong_nodes.nd rfl (Or.inl rfl) (pe_lst pa_nil))
      (pss_cons (ps_for PassesOwn.never rfl (pi_list (pe_g g_cut (hr.mono (by decide)) rfl (pa_cons (pv 1) (pa_cons (pe_op op_sub (pe_callB call_len_seq rfl B.len PySem.boot_len (pa_cons (pv 1) pa_nil)) (pe_fld (pv 0) rfl)) pa_nil)))) (pg_name (i := 4) sc_wrong_nodes.nd rfl (Or.inr rfl)) (pss_cons (ps_set (i := 5) sc_wrong_nodes.nd rfl (Or.inl rfl) (pe_slice sl_list (pe_lc (g := (gTup K 2 (gCons (gName 8) (gCons (gName 9) gNil)))) (tt := (tTest (tOp (rIn K true) (tVar 9) (tVar 4)))) (te := (tVar 8)) (own := [("at", 8), ("node", 9)]) rfl sc_wrong_nodes.nd (pi_enum rfl B.enumerate (pa_cons (pv 1) pa_nil)) (blkOk_by (by rfl)) (fun s H C cl fp => (pg_tup (n := 2) rfl (pgs_cons (pg_name (i := 8) sc_wrong_nodes.nd rfl (Or.inl rfl) (Or.inr rfl)) (pgs_cons (pg_name (i := 9) sc_wrong_nodes.nd rfl (Or.inl rfl) (Or.inr rfl)) pgs_nil)))) (fun s H C cl fp => (pts_one (pt_cmpR op_notIn_seq (pv 9) (pv 4) (by with_unfolding_all rfl)))) (fun s H C cl fp => (pv 8))) po_none (po_some (pe_fld (pv 0) rfl))))
      (pss_cons (ps_set (i := 6) sc_wrong_nodes.nd rfl (Or.inl rfl) (pe_g g_likely_document (hr.mono (by decide)) rfl (pa_cons (pv 0) (pa_cons (pe_lc (g := (gName 8)) (te := (tOp (rIxL K) (tVar 1) (tVar 8))) (own := [("at", 8)]) rfl sc_wrong_nodes.nd (pi_list (pv 5)) (blkOk_by (by rfl)) (fun s H C cl fp => (pg_name (i := 8) sc_wrong_nodes.nd rfl (Or.inl rfl) (Or.inr rfl))) (fun s H C cl fp => pts_nil) (fun s H C cl fp => (pe_ix ix_list (pv 1) (pv 8) (fun _ _ => rfl)))) (pa_cons (pe_lc (g := (gName 8)) (te := (tOp (rIxL K) (tVar 2) (tVar 8))) (own := [("at", 8)]) rfl sc_wrong_nodes.nd (pi_list (pv 5)) (blkOk_by (by rfl)) (fun s H C cl fp => (pg_name (i := 8) sc_wrong_nodes.nd rfl (Or.inl rfl) (Or.inr rfl))) (fun s H C cl fp => pts_nil) (fun s H C cl fp => (pe_ix ix_list (pv 2) (pv 8) (fun _ _ => rfl)))) pa_nil)))))
      (pss_cons (ps_set (i := 7) sc_wrong_nodes.nd rfl (Or.inl rfl) (pe_g g_nodes_apart (hr.mono (by decide)) rfl (pa_cons (pv 0) (pa_cons (pv 1) (pa_cons (pv 2) (pa_cons (pv 6) pa_nil))))))
      (pss_one (ps_if (PW.pt (pw_and (pt_cmpR op_eq (pe_callB call_len_seq rfl B.len PySem.boot_len (pa_cons (pv 7) pa_nil)) pe_int (nomark _)) (pw_and1 (pt_cmpR op_in_seq (pe_ix ix_list (pv 7) pe_int (fun _ _ => rfl)) (pv 4) (by with_unfolding_all rfl))))) (pss_one (ps_expr (pe_bm PySem.F.plainAttrs_list PySem.F.slot_list_append PySem.F.type_list_append mt_append (pv 3) (pa_cons (pe_ix ix_list (pv 7) pe_int (fun _ _ => rfl)) pa_nil)))) pss_nil))))))
      (pss_one (ps_ret (pv 3))))), ?_⟩
    refine ⟨z0L, fun wa hwa => ?_⟩
    have s1 : Same H (upd H wa (.lst [])) := .new hwa
    refine ⟨_, rfl, _, rfl, q, _, rfl, .inl (SqL.of (s1 _ _ hq)), _, rfl, p, C, dx, _, _, rfl, s1 _ _ hp, T.cl, T.nk, codeF_k c, _, _, rfl, rfl, ?_⟩
    refine ⟨_, l, _, l.length - c.k, rfl, by rw [nvs_len]; omega, ⟨q, rfl, s1 _ _ hq⟩, by omega, by omega, by omega, fun H2 ga gvs s2 nga hga hgl hgs => ?_⟩
    have s0 : Same H (hid wa H2) := (s1.trans s2).hid hwa
    have hga0 : hid wa H2 ga = some (.lst gvs) := hid_at hga fun e => by rw [e, upd_same] at nga; cases nga
    have hwa2 : H2 wa = some (.lst []) := s2 _ _ upd_same
    refine ⟨ga, rfl, ⟨_, SqL.of hga⟩, ?_⟩
    refine for_list (xs := gvs) (fun i σ H3 => ∃ r4 r5 r6 r7, σ = [some (V.ref p), some (V.ref q), some (V.ref za), some (V.ref wa), r4, r5, r6, r7, none, none] ∧ Same (hid wa H2) (hid wa H3) ∧
      H3 wa = some (.lst (nvs ((l.take ((l.length - c.k) * i)).filter fun w => (c.told (l.filter fun f => f != w) rows).isSome)))) ?_ ?_ ?_ ?_
    · exact ⟨_, _, _, _, rfl, .refl _, by rw [hwa2]; rfl⟩
    · rintro i σ H3 _ ⟨r4, r5, r6, r7, rfl, s3, _⟩
      exact SqL.of (hid_same _ _ _ _ (s3 _ _ hga0))
    · rintro i x σ H3 e1 ⟨r4, r5, r6, r7, rfl, s3, hwa3⟩
      obtain ⟨gb, rfl, ngb, hgb⟩ := hgs i x e1
      have hgb0 : hid wa H2 gb = some (.lst (nvs ((l.drop ((l.length - c.k) * i)).take (l.length - c.k)))) := hid_at hgb fun e => by rw [e, upd_same] at ngb; cases ngb
      have sH3 : Same (hid wa H2) H3 := s3.trans (hid_same _ _)
      have sA : Same H H3 := s0.trans sH3
      have hgb3 := sH3 _ _ hgb0
      generalize hGe : (l.drop ((l.length - c.k) * i)).take (l.length - c.k) = G at hgb3
      refine ⟨_, rfl, q, _, rfl, SqL.of (sA _ _ hq), fun D hD => ?_⟩
      refine lc_enum (xs := nvs l) (fun j H4 => Same H3 H4 ∧ H4 D = some (.lst (nvs ((List.range j).filter fun a => !decide (l.getD a 0 ∈ G))))) ⟨.new hD, upd_same⟩ (fun j H4 z => SqL.of (z.1 _ _ (sA _ _ hq))) (fun j x H4 T4 e2 z hT => ?_) (fun H4 z => ?_)
      · obtain ⟨h1, rfl⟩ := nvs_get e2
        have sT : Same H4 (upd H4 T4 (.tup [.int (j : Nat), nv (l.getD j 0)])) := .new hT
        refine ⟨T4, _, rfl, SqT.of upd_same, rfl, _, _, rfl, _, _, rfl, rfl, rfl, ?_⟩
        refine ⟨_, rfl, _, rfl, gb, nvs G, rfl, .inl (SqL.of (sT _ _ (z.1 _ _ hgb3))), rfl, nvs_flat _, _, rfl, ?_⟩
        refine ite2 (fun h => ?_) (fun h => ?_)
        · have h : (!inV (nv (l.getD j 0)) (nvs G)) = true := h
          rw [nv_in] at h
          refine ⟨_, rfl, _, sT _ _ z.2, ?_, (z.1.trans sT).upd hD, ?_⟩
          · rw [nvs_len]
            have := List.length_filter_le (fun a => !decide (l.getD a 0 ∈ G)) (List.range j)
            rw [List.length_range] at this
            show _ < 2 ^ 24
            omega
          · rw [upd_same, filter_range_succ, if_pos h, ← nvs_snoc]
            rfl
        · have h : ¬ (!inV (nv (l.getD j 0)) (nvs G)) = true := h
          rw [nv_in] at h
          refine ⟨z.1.trans sT, ?_⟩
          rw [sT _ _ z.2, filter_range_succ, if_neg h, List.append_nil]
      rw [nvs_len] at z
      obtain ⟨s4, hD4⟩ := z
      have sB := sA.trans s4
      refine ⟨_, rfl, p, C, dx, _, _, rfl, sB _ _ hp, T.cl, T.nk, codeF_k c, _, rfl, D, _, rfl, SqL.of hD4, fun oa hoa => ?_⟩
      rw [cut_hi, nvs_take]
      have oO : (((List.range l.length).filter fun a => !decide (l.getD a 0 ∈ G)).take c.k).length = c.k := by rw [← hGe]; exact outside_len hn (by omega)
      have nO : (((List.range l.length).filter fun a => !decide (l.getD a 0 ∈ G)).take c.k).Nodup := outside_nodup
      have mO : ∀ a ∈ (((List.range l.length).filter fun a => !decide (l.getD a 0 ∈ G)).take c.k), a < l.length ∧ l.getD a 0 ∉ G := fun a ha => by
        obtain ⟨h1, h2⟩ := outside_mem ha
        exact ⟨h1, by simpa using h2⟩
      have s5 : Same H4 (upd H4 oa (.lst (nvs (((List.range l.length).filter fun a => !decide (l.getD a 0 ∈ G)).take c.k)))) := .new hoa
      generalize (((List.range l.length).filter fun a => !decide (l.getD a 0 ∈ G)).take c.k) = O at oO nO mO s5 ⊢
      have gO : ∀ j, j < c.k → O.getD j 0 < l.length ∧ l.getD (O.getD j 0) 0 ∉ G := fun j hj => mO _ (Tld.getD_mem (by omega))
      have sC := sB.trans s5
      refine ⟨_, rfl, _, rfl, oa, rfl, ⟨_, SqL.of upd_same⟩, fun D1 hD1 => ?_⟩
      refine lc_list (xs := nvs O) (Acc (upd H4 oa (.lst (nvs O))) D1 fun j y _ => y = nv (l.getD (O.getD j 0) 0)) (Acc.start hD1) (fun j H5 _ z => SqL.of (z.same _ _ upd_same)) (fun j x H5 e2 z => ?_) (fun H6 z6 => ?_)
      · obtain ⟨h1, rfl⟩ := nvs_get e2
        have h2 := (gO j (by omega)).1
        exact ⟨rfl, _, rfl, _, rfl, q, _, _, _, rfl, rfl, SqL.of (z.same _ _ (sC _ _ hq)), at_of rfl (nvs_at h2), Acc.push (fun _ _ _ _ _ h => h) hD1 z (.refl _) rfl (by omega)⟩
      have hD1' : H6 D1 = some (.lst (nvs ((List.range c.k).map fun j => l.getD (O.getD j 0) 0))) := by
        obtain ⟨ys, g1, g2, g3⟩ := z6.ex
        rw [g1, vals_of g2 g3, nvs_len, oO]
        unfold nvs
        rw [List.map_map]
        rfl
      have s6 := z6.same
      have sD := sC.trans s6
      refine ⟨_, rfl, oa, rfl, ⟨_, SqL.of (s6 _ _ upd_same)⟩, fun D2 hD2 => ?_⟩
      refine lc_list (xs := nvs O) (Acc H6 D2 fun j y G => IsB G y (held.getD (O.getD j 0) [])) (Acc.start hD2) (fun j H7 _ z => SqL.of (z.same _ _ (s6 _ _ upd_same))) (fun j x H7 e2 z => ?_) (fun H7 z7 => ?_)
      · obtain ⟨h1, rfl⟩ := nvs_get e2
        have h2 := (gO j (by omega)).1
        obtain ⟨px, ex, hpx⟩ := hhv.get (i := O.getD j 0) (by rw [hS.1]; exact h2)
        have hpx6 := sD _ _ hpx
        exact ⟨rfl, _, rfl, _, rfl, za, _, _, _, rfl, rfl, SqL.of (z.same _ _ (sD _ _ hza)), at_of rfl ex, Acc.push (fun _ _ _ _ s h => h.mono s) hD2 z (.refl _) ⟨px, rfl, hid_at (z.same _ _ hpx6) (ne_of_none hpx6 hD2)⟩ (by omega)⟩
      have s7 := z7.same
      have sE := sD.trans s7
      have hD2' : ∃ ys, H7 D2 = some (.lst ys) ∧ AllB H7 ys ((List.range c.k).map fun j => held.getD (O.getD j 0) []) := by
        obtain ⟨ys, g1, g2, g3⟩ := z7.ex
        rw [nvs_len, oO] at g2
        exact ⟨ys, g1, allB_range g2 fun j y e => (g3 j y e).mono (hid_same _ _)⟩
      obtain ⟨dvs, hd2, hdv⟩ := hD2'
      refine ⟨_, _, _, c, (List.range c.k).map fun j => l.getD (O.getD j 0) 0, (List.range c.k).map fun j => held.getD (O.getD j 0) [], rfl, ⟨p, dx, rfl, sE _ _ hp⟩, ⟨D1, rfl, s7 _ _ hD1'⟩, ⟨D2, dvs, rfl, hd2, hdv⟩, o, by simp, ?_, ?_, ⟨by simp, ?_⟩, fun H8 a8 s8 n8 e8 => ?_⟩
      · exact nodup_range_map fun i j hi hj hij e => Tld.getD_inj hn (gO i hi).1 (gO j hj).1 (Tld.getD_inj nO (by omega) (by omega) hij) e
      · intro f hf
        obtain ⟨j, hj, rfl⟩ := List.mem_map.mp hf
        exact h9 _ (Tld.getD_mem (gO j (by simpa using hj)).1)
      · intro r hr2
        obtain ⟨j, hj, rfl⟩ := List.mem_map.mp hr2
        exact Tld.getD_len hS (gO j (by simpa using hj)).1
      have el : likely c (fun a => Sp.place (((List.range c.k).map fun j => l.getD (O.getD j 0) 0).getD a 0)) (fun a => ((List.range c.k).map fun j => held.getD (O.getD j 0) []).getD a []) = likely c (fun a => Sp.place (l.getD (O.getD a 0) 0)) (fun a => held.getD (O.getD a 0) []) :=
        likely_congr k1 (fun a ha => by rw [Rw.getD_range _ _ ha]) (fun a ha => Rw.getD_range _ _ ha)
      rw [el] at e8
      have hll := Tld.likely_len k1 o.kd (fun a => Sp.place (l.getD (O.getD a 0) 0)) (h := fun a => held.getD (O.getD a 0) []) fun a ha => Tld.getD_len hS (gO a ha).1
      have sF := sE.trans s8
      have s38 : Same H3 H8 := (((s4.trans s5).trans s6).trans s7).trans s8
      have hge := group_eq o hn h9 hS hrows hkl ht oO nO (fun a ha => (mO a ha).1) (G := G) (by rw [← hGe]; exact (hn.sublist (List.drop_sublist _ _)).sublist (List.take_sublist _ _)) (by rw [← hGe]; exact fun w hw => List.mem_of_mem_drop (List.mem_of_mem_take hw)) (fun a ha => (mO a ha).2)
      generalize likely c (fun a => Sp.place (l.getD (O.getD a 0) 0)) (fun a => held.getD (O.getD a 0) []) = doc at e8 hll hge
      refine ⟨_, rfl, _, rfl, _, rfl, _, rfl, ?_⟩
      refine ⟨_, _, _, _, c, l, held, doc, rfl, ⟨p, dx, rfl, sF _ _ hp⟩, ⟨q, rfl, sF _ _ hq⟩, ⟨za, hvs, rfl, sF _ _ hza, hhv.mono sF⟩, ⟨a8, rfl, e8⟩, o, hS.1, h10, h9, hll, fun H9 aa s9 n9 e9 => ?_⟩
      have s39 : Same H3 H9 := s38.trans s9
      have tk := take_chunk (l := l) (l.length - c.k) i
      rw [hGe] at tk
      have sh : Same (hid wa H2) (hid wa H9) := s3.trans (hid_mono s39)
      refine ⟨_, rfl, aa, _, rfl, .inl (SqL.of e9), rfl, _, rfl, ?_⟩
      rw [nvs_len]
      refine ite2 (fun h1 => ?_) (fun h1 => ?_)
      · have h1 : (apartM c l held doc).length = 1 := by have := V.int.inj (of_decide_eq_true h1); omega
        refine ⟨_, rfl, aa, _, _, _, rfl, rfl, SqL.of e9, atI_nat (j := 0) (nvs_at (by omega)), _, rfl, gb, nvs G, rfl, .inl (SqL.of (s39 _ _ hgb3)), rfl, nvs_flat _, _, rfl, ?_⟩
        refine ite2 (fun h2 => ?_) (fun h2 => ?_)
        · have h2 : inV (nv ((apartM c l held doc).getD 0 0)) (nvs G) = true := h2
          rw [nv_in, decide_eq_true_eq] at h2
          rw [if_pos ⟨h1, h2⟩] at hge
          refine ⟨_, rfl, .inl ⟨rfl, _, SqL.of (s39 _ _ hwa3)⟩, _, rfl, aa, _, _, _, rfl, rfl, SqL.of e9, atI_nat (j := 0) (nvs_at (by omega)), wa, _, _, rfl, rfl, s39 _ _ hwa3, ?_, ?_⟩
          · rw [nvs_len]
            have h3 := List.length_filter_le (fun w => (c.told (l.filter fun f => f != w) rows).isSome) (l.take ((l.length - c.k) * i))
            rw [List.length_take] at h3
            show _ < 2 ^ 24
            omega
          · refine ⟨_, _, _, _, rfl, by rw [hid_upd]; exact sh, ?_⟩
            rw [upd_same, tk, List.filter_append, hge, ← nvs_snoc]
        · have h2 : ¬ inV (nv ((apartM c l held doc).getD 0 0)) (nvs G) = true := h2
          rw [nv_in, decide_eq_true_eq] at h2
          rw [if_neg fun z => h2 z.2] at hge
          refine ⟨_, _, _, _, rfl, sh, ?_⟩
          rw [s39 _ _ hwa3, tk, List.filter_append, hge, List.append_nil]
      · have h1 : ¬ (apartM c l held doc).length = 1 := fun e => h1 (by rw [e]; rfl)
        rw [if_neg fun z => h1 z.1] at hge
        refine ⟨_, _, _, _, rfl, sh, ?_⟩
        rw [s39 _ _ hwa3, tk, List.filter_append, hge, List.append_nil]
    · rintro σ H3 ⟨r4, r5, r6, r7, rfl, s3, hwa3⟩
      refine ⟨_, rfl, k H3 wa (s0.trans (s3.trans (hid_same _ _))) hwa ?_⟩
      rw [hwa3, List.take_of_length_le]
      rw [Nat.mul_comm]
      exact hgl
end
end Sn
end
section
set_option maxHeartbeats 2000000
namespace Sn
open PySem PySem.Spec PyProof.Rows L2
open Tld (Ok ok_iff)
def ivs (l : List Int) : List V := l.map V.int
def ansI (a : Sp.Answer) : List Int := a.ret :: (a.nums.map (fun (n : Nat) => (n : Int)) ++ if a.ret < 0 then [] else a.out.elim [] Lines.toInts)
theorem ans_says (z : Int) : ansI (Sp.says z) = [z] := by
  unfold ansI Sp.says
  simp
theorem ans_gives {z : Int} (hz : 0 ≤ z) (b : Sp.Bytes) : ansI (Sp.gives z b) = z :: Lines.toInts b := by
  unfold ansI Sp.gives
  rw [if_neg (by show ¬ z < 0; omega)]
  rfl
theorem ans_tells (z : Int) (l : List Nat) : ansI (Sp.tells z l) = z :: l.map fun (n : Nat) => (n : Int) := by
  unfold ansI Sp.tells
  simp
theorem ivs_bytes (b : Sp.Bytes) : ivs (Lines.toInts b) = bvs b := by
  unfold ivs Lines.toInts bvs
  rw [List.map_map]
  rfl
theorem ivs_nats (l : List Nat) : ivs (l.map fun (n : Nat) => (n : Int)) = nvs l := by
  unfold ivs nvs
  rw [List.map_map]
  rfl
def RA (H : Hp) (Q : VK) (a : Sp.Answer) : Prop := ∀ (H' : Hp) (p : Addr), Same H H' → H p = none → H' p = some (.lst (ivs (ansI a))) → (ansI a).length ≤ 4000 → Q (.ref p) H'
theorem RA.one {H : Hp} {Q : VK} {z : Int} (h : RA H Q (Sp.says z)) {H1 : Hp} (s : Same H H1) {l : Addr} (hl : H1 l = none) : Q (.ref l) (upd H1 l (.lst [V.int z])) :=
  h _ l (s.trans (.new hl)) (s.free hl) (by rw [upd_same, ans_says]; rfl) (by rw [ans_says]; show 1 ≤ 4000; decide)
theorem RA.cat {H : Hp} {Q : VK} {z : Int} {b : Sp.Bytes} (h : RA H Q (Sp.gives z b)) (hz : 0 ≤ z) (hb : b.length < 4000) {H1 : Hp} (s : Same H H1) {l : Addr} (hl : H1 l = none) : Q (.ref l) (upd H1 l (.lst ([V.int z] ++ bvs b))) :=
  h _ l (s.trans (.new hl)) (s.free hl) (by rw [upd_same, ans_gives hz, ← ivs_bytes]; rfl) (by rw [ans_gives hz, List.length_cons]; unfold Lines.toInts; rw [List.length_map]; omega)
theorem RA.tells {H : Hp} {Q : VK} {z : Int} {ns : List Nat} (h : RA H Q (Sp.tells z ns)) (hb : ns.length < 4000) {H1 : Hp} (s : Same H H1) {l : Addr} (hl : H1 l = none) : Q (.ref l) (upd H1 l (.lst (V.int z :: nvs ns))) :=
  h _ l (s.trans (.new hl)) (s.free hl) (by rw [upd_same, ans_tells, ← ivs_nats]; rfl) (by rw [ans_tells, List.length_cons, List.length_map]; omega)
def codeA (x : Sp.Call) : Sp.Answer := (Sp.step Sp.start x).2
theorem not_f {b : Bool} (h : (!b) = true) : b = false := by cases b; rfl; cases h
theorem not_t {b : Bool} (h : ¬ (!b) = true) : b = true := by cases b; exact absurd rfl h; rfl
theorem looked_ok {c : Sp.Code} {l : List Nat} (h : Sp.looked c l = true) : Ok c ∧ ∀ f ∈ l, f < c.n := by
  unfold Sp.looked at h
  rw [Bool.and_eq_true] at h
  exact ⟨(ok_iff c).mp h.1, fun f hf => of_decide_eq_true (List.all_eq_true.mp h.2 f hf)⟩
theorem looked_one {c : Sp.Code} {n : Nat} (h : Sp.looked c [n] = true) : Ok c ∧ n < c.n := ⟨(looked_ok h).1, (looked_ok h).2 n (by simp)⟩
theorem rising_pw : ∀ {l : List Nat}, Sp.rising l = true → l.Pairwise (· < ·)
  | [], _ => .nil
  | [a], _ => by simp
  | a :: b :: l, h => by
    have h : (decide (a < b) && Sp.rising (b :: l)) = true := h
    rw [Bool.and_eq_true] at h
    have h1 := of_decide_eq_true h.1
    have h2 := rising_pw h.2
    refine List.pairwise_cons.mpr ⟨fun x hx => ?_, h2⟩
    rcases List.mem_cons.mp hx with e | e
    · omega
    · have := (List.pairwise_cons.mp h2).1 x e
      omega
theorem pw_rising : ∀ {l : List Nat}, l.Pairwise (· < ·) → Sp.rising l = true
  | [], _ => rfl
  | [a], _ => rfl
  | a :: b :: l, h => by
    obtain ⟨h1, h2⟩ := List.pairwise_cons.mp h
    show (decide (a < b) && Sp.rising (b :: l)) = true
    rw [pw_rising h2, decide_eq_true (h1 b (by simp))]
    rfl
theorem rising_nodup {l : List Nat} (h : Sp.rising l = true) : l.Nodup := (rising_pw h).imp fun h => by omega
theorem rising_ge : ∀ {l : List Nat}, l.Pairwise (· < ·) → ∀ i, (h : i < l.length) → i ≤ l[i]
  | [], _, i, h => by simp at h
  | a :: l, hp, 0, _ => Nat.zero_le _
  | a :: l, hp, i + 1, h => by
    have hi : i < l.length := by simpa using h
    have h1 := (List.pairwise_cons.mp hp).1
    have h2 := rising_ge (List.pairwise_cons.mp hp).2
    show i + 1 ≤ l[i]
    cases i with
    | zero => have := h1 l[0] (List.getElem_mem hi); omega
    | succ i =>
      have h3 := List.pairwise_iff_getElem.mp (List.pairwise_cons.mp hp).2 i (i + 1) (by omega) hi (by omega)
      have := rising_ge hp (i + 1) (by simp; omega)
      have e : (a :: l)[i + 1]'(by simp; omega) = l[i]'(by omega) := rfl
      rw [e] at this
      omega
theorem rising_len {l : List Nat} (h : Sp.rising l = true) (h9 : ∀ f ∈ l, f < 9) : l.length ≤ 9 := by
  cases q : l.length with
  | zero => omega
  | succ n =>
    have := rising_ge (rising_pw h) n (by omega)
    have := h9 l[n] (List.getElem_mem _)
    omega
theorem where_get {l : List Nat} (hn : l.Nodup) {i : Nat} (hi : i < l.length) : Sp.whereIn l (l.getD i 0) = i := by
  unfold Sp.whereIn
  rw [List.getD_eq_getElem?_getD, List.getElem?_eq_getElem hi]
  rw [List.findIdx_eq hi]
  refine ⟨by simp, fun j hj => ?_⟩
  simp only [Option.getD_some, beq_eq_false_iff_ne, ne_eq]
  intro e
  have := (List.getElem_inj hn).mp e
  omega
theorem rowsIn_get {c : Sp.Code} {l : List Nat} (hn : l.Nodup) {b : Sp.Bytes} {i : Nat} (hi : i < l.length) :
    Sp.rowsIn c l b (l.getD i 0) = Sp.rowsOf c.len c.d ((Sp.rowsOf (c.d * c.len) l.length b).getD i []) := by
  unfold Sp.rowsIn
  rw [where_get hn hi]
  congr 1
  unfold Sp.rowsOf
  rw [Rw.getD_range _ _ hi]
theorem partsIn_get {c : Sp.Code} {l : List Nat} (hn : l.Nodup) {b : Sp.Bytes} {i : Nat} (hi : i < l.length) :
    Sp.partsIn c l b (l.getD i 0) = (Sp.rowsOf c.len l.length b).getD i [] := by
  unfold Sp.partsIn
  rw [where_get hn hi]
  unfold Sp.rowsOf
  rw [Rw.getD_range _ _ hi]
structure Cn (mg : Str → Option Value) : Prop where
  noSuch : CInt mg "NO_SUCH" (-1)
  notBuilt : CInt mg "NOT_BUILT" (-3)
  notLet : CInt mg "NOT_LET" (-4)
  unfit : CInt mg "UNFIT" (-5)
  apart : CInt mg "APART" (-9)
end Sn
end
section
set_option maxHeartbeats 4000000
namespace Sn
open PySem PySem.Spec PyProof.Rows L2
open Rw (vAt throughR)
open Tld (Ok likely toldM againM ok_iff)
open Gau (Shape)
section
variable {P : Program} {w : World} {K : PySem.W.Frag} {mg : Str → Option Value} {base : Heap} {C : Addr}
theorem ne_int {a b : Nat} : (!decide (V.int (a : Int) = V.int (b : Int))) = true ↔ a ≠ b := by
  rw [Bool.not_eq_true', decide_eq_false_iff_not]
  exact ⟨fun h e => h (by rw [e]), fun h e => h (by have := V.int.inj e; omega)⟩
theorem sc_judge : FnScope ["code"] ["code"] (defScope (top 43)) := ⟨rfl, rfl, rfl, by decide +kernel, rfl, by decide +kernel, by decide +kernel⟩
def sp_judge (C : Addr) : L2.Sp := fun vs H Q _ => ∃ (x : V) (c : Sp.Code), vs = [x] ∧ IsCode C H x c ∧ RA H Q (codeA (.judge c))
theorem ok_judge {f : Addr} {fd : FuncData} (F : Fun K "judge" "judge" (top 43) f fd) (cn : Cn mg) (g_is_code : Gd P w K mg base 1 "is_code" ["code"] (sp_is_code C)) (g_document_rows : Gd P w K mg base 2 "document_rows" ["code"] (sp_document_rows C)) (g_node_bytes : Gd P w K mg base 1 "node_bytes" ["code"] (sp_node_bytes C)) :
    FnOk P w K mg base CX0 3 f fd ["code"] (sp_judge C) := by
  refine F.ok sc_judge (fun vs H Q E h => ?_) (fun cdv A outer s H vs Q E hr h => ?_)
  · obtain ⟨x, c, rfl, _⟩ := h
    rfl
  · obtain ⟨x, c, rfl, ⟨p, dx, rfl, hp⟩, k⟩ := h
    have c_NO_SUCH := cn.noSuch
    have k : RA H Q (if c.ok = true then Sp.tells 0 [c.holds, c.d * c.len] else Sp.says (-1)) := k
    refine ⟨_, (pss_cons (ps_if (pt_not (pt_truth (pe_g g_is_code (hr.mono (by decide)) rfl (pa_cons (pv 0) pa_nil)) (fun _ => rfl))) (pss_one (ps_ret (pe_lst (pa_cons (pe_ci c_NO_SUCH rfl) pa_nil)))) pss_nil)
      (pss_one (ps_ret (pe_lst (pa_cons pe_int (pa_cons (pe_g g_document_rows (hr.mono (by decide)) rfl (pa_cons (pv 0) pa_nil)) (pa_cons (pe_g g_node_bytes (hr.mono (by decide)) rfl (pa_cons (pv 0) pa_nil)) pa_nil))))))), ?_⟩
    refine ⟨_, rfl, _, c, rfl, ⟨p, dx, rfl, hp⟩, _, rfl, ?_⟩
    refine ite2 (fun h => ?_) (fun h => ?_)
    · rw [if_neg (by rw [not_f h]; decide)] at k
      exact ⟨z1L, fun l hl => k.one (.refl _) hl⟩
    · have h := not_t h
      have o := (ok_iff c).mp h
      rw [if_pos h] at k
      exact ⟨_, rfl, _, c, rfl, ⟨p, dx, rfl, hp⟩, o, _, rfl, _, c, rfl, ⟨p, dx, rfl, hp⟩, o, by show 3 ≤ 2 ^ 24; decide, fun l hl => k.tells (by show 2 < 4000; decide) (.refl _) hl⟩
theorem sc_store : FnScope ["code", "node", "document"] ["code", "node", "document"] (defScope (top 44)) := ⟨rfl, rfl, rfl, by decide +kernel, rfl, by decide +kernel, by decide +kernel⟩
def sp_store (C : Addr) : L2.Sp := fun vs H Q _ => ∃ (x y : V) (c : Sp.Code) (n : Nat) (b : Sp.Bytes), vs = [x, nv n, y] ∧ IsCode C H x c ∧ IsB H y b ∧ RA H Q (codeA (.store c n b))
theorem ok_store {f : Addr} {fd : FuncData} (F : Fun K "store" "store" (top 44) f fd) (cn : Cn mg) (B : Bi mg) (T : Cc K C) (g_is_missing : Gd P w K mg base 2 "is_missing" ["code", "nodes"] (sp_is_missing C)) (g_document_bytes : Gd P w K mg base 3 "document_bytes" ["code"] (sp_document_bytes C))
    (g_rows_of_node : Gd P w K mg base 3 "rows_of_node" ["square", "node"] sp_rows_of_node) (g_square_of : Gd P w K mg base 2 "square_of" ["code", "document"] (sp_square_of C)) :
    FnOk P w K mg base CX0 4 f fd ["code", "node", "document"] (sp_store C) := by
  refine F.ok sc_store (fun vs H Q E h => ?_) (fun cdv A outer s H vs Q E hr h => ?_)
  · obtain ⟨x, y, c, n, b, rfl, _⟩ := h
    rfl
  · obtain ⟨x, y, c, n, b, rfl, ⟨p, dx, rfl, hp⟩, ⟨q, rfl, hq⟩, k⟩ := h
    have c_NO_SUCH := cn.noSuch
    have c_UNFIT := cn.unfit
    have k : RA H Q (if Sp.looked c [n] = false then Sp.says (-1) else if b.length ≠ c.holds * c.len then Sp.says (-5) else Sp.gives (c.d : Nat) (c.rows (Sp.rowsOf c.len c.holds b) n).flatten) := k
    refine ⟨_, (pss_cons (ps_if (pt_truth (pe_g g_is_missing (hr.mono (by decide)) rfl (pa_cons (pv 0) (pa_cons (pe_lst (pa_cons (pv 1) pa_nil)) pa_nil))) (fun _ => rfl)) (pss_one (ps_ret (pe_lst (pa_cons (pe_ci c_NO_SUCH rfl) pa_nil)))) pss_nil)
      (pss_cons (ps_if (pt_cmpR op_ne (pe_callB call_len_seq rfl B.len PySem.boot_len (pa_cons (pv 2) pa_nil)) (pe_g g_document_bytes (hr.mono (by decide)) rfl (pa_cons (pv 0) pa_nil)) (nomark _)) (pss_one (ps_ret (pe_lst (pa_cons (pe_ci c_UNFIT rfl) pa_nil)))) pss_nil)
      (pss_one (ps_ret (pe_op op_cat (pe_lst (pa_cons (pe_fld (pv 0) rfl) pa_nil)) (pe_g g_rows_of_node (hr.mono (by decide)) rfl (pa_cons (pe_g g_square_of (hr.mono (by decide)) rfl (pa_cons (pv 0) (pa_cons (pv 2) pa_nil))) (pa_cons (pv 1) pa_nil)))))))), ?_⟩
    refine ⟨_, rfl, _, rfl, z1L, fun l1 hl1 => ?_⟩
    have s1 : Same H (upd H l1 (.lst [nv n])) := .new hl1
    refine ⟨_, _, c, [n], rfl, ⟨p, dx, rfl, s1 _ _ hp⟩, ⟨l1, rfl, upd_same⟩, by show 1 ≤ 65536; decide, fun H1 s2 => ?_⟩
    have s12 := s1.trans s2
    refine ⟨_, rfl, ite2 (fun h => ?_) (fun h => ?_)⟩
    · rw [if_pos (not_f h)] at k
      exact ⟨z1L, fun l hl => k.one s12 hl⟩
    have h := not_t h
    rw [if_neg (by rw [h]; decide)] at k
    obtain ⟨o, hnn⟩ := looked_one h
    have n9 := o.n9
    refine ⟨_, rfl, q, _, rfl, .inl (SqL.of (s12 _ _ hq)), _, rfl, _, c, rfl, ⟨p, dx, rfl, s12 _ _ hp⟩, o, rfl, _, rfl, ite2 (fun h => ?_) (fun h => ?_)⟩
    · rw [bvs_len] at h
      rw [if_pos (ne_int.mp h)] at k
      exact ⟨z1L, fun l hl => k.one s12 hl⟩
    rw [bvs_len] at h
    have hb : b.length = c.holds * c.len := Decidable.byContradiction fun e => h (ne_int.mpr e)
    rw [if_neg (fun e => e hb)] at k
    refine ⟨_, rfl, p, C, dx, _, _, rfl, s12 _ _ hp, T.cl, T.nd, codeF_d c, z1L, fun l2 hl2 => ?_⟩
    have s3 := s12.trans (.new (o := .lst [nv c.d]) hl2)
    refine ⟨_, rfl, _, rfl, _, _, c, b, rfl, ⟨p, dx, rfl, s3 _ _ hp⟩, ⟨q, rfl, s3 _ _ hq⟩, o, hb, fun H3 v3 s4 hsq => ?_⟩
    have hS := square_shape o hb
    have hdl := d_len_le o
    refine ⟨_, rfl, _, _, n, c.d * c.len, rfl, hsq, by rw [hS.1]; have := o.k1; have := o.kd; omega, hS.2, by omega, by omega, fun H4 a4 s5 n5 e5 => ?_⟩
    rw [Tld.node_flat o.kd (Rw.rowsOf_shape hb)] at e5
    have hfl := Rw.flat_len (Tld.rows_shape o.kd (Rw.rowsOf_shape hb) n).2
    rw [(Tld.rows_shape o.kd (Rw.rowsOf_shape hb) n).1] at hfl
    refine ⟨l2, a4, _, _, rfl, rfl, s5 _ _ (s4 _ _ upd_same), e5, by rw [bvs_len, hfl]; show 1 + _ ≤ 2 ^ 24; omega, fun l3 hl3 => ?_⟩
    exact k.cat (by omega) (by rw [hfl]; omega) ((s3.trans s4).trans s5) hl3
theorem unfit_not {l : List Nat} {few each : Nat} {b : Sp.Bytes} (h : ¬ decide (Sp.rising l = false ∨ l.length < few ∨ b.length ≠ l.length * each) = true) : Sp.rising l = true ∧ few ≤ l.length ∧ b.length = l.length * each := by
  have h : ¬ (Sp.rising l = false ∨ l.length < few ∨ b.length ≠ l.length * each) := fun e => h (decide_eq_true e)
  refine ⟨?_, ?_, ?_⟩
  · cases q : Sp.rising l with
    | true => rfl
    | false => exact absurd (.inl q) h
  · exact Nat.le_of_not_lt fun e => h (.inr (.inl e))
  · exact Decidable.byContradiction fun e => h (.inr (.inr e))
theorem sc_tell : FnScope ["code", "nodes", "rows", "document"] ["code", "nodes", "rows"] (defScope (top 45)) := ⟨rfl, rfl, rfl, by decide +kernel, rfl, by decide +kernel, by decide +kernel⟩
def sp_tell (C : Addr) : L2.Sp := fun vs H Q _ => ∃ (x y z : V) (c : Sp.Code) (l : List Nat) (b : Sp.Bytes), vs = [x, y, z] ∧ IsCode C H x c ∧ IsN H y l ∧ IsB H z b ∧ l.length ≤ 65536 ∧ RA H Q (codeA (.tell c l b))
theorem ok_tell {f : Addr} {fd : FuncData} (F : Fun K "tell" "tell" (top 45) f fd) (cn : Cn mg) (B : Bi mg) (T : Cc K C) (g_is_missing : Gd P w K mg base 2 "is_missing" ["code", "nodes"] (sp_is_missing C)) (g_is_unfit : Gd P w K mg base 2 "is_unfit" ["nodes", "fewest", "row", "bytes_each"] sp_is_unfit)
    (g_node_bytes : Gd P w K mg base 1 "node_bytes" ["code"] (sp_node_bytes C)) (g_cut : Gd P w K mg base 1 "cut" ["row", "length"] sp_cut) (g_told_document : Gd P w K mg base 5 "told_document" ["code", "nodes", "held"] (sp_told_document C)) (g_document_rows : Gd P w K mg base 2 "document_rows" ["code"] (sp_document_rows C)) :
    FnOk P w K mg base CX0 6 f fd ["code", "nodes", "rows"] (sp_tell C) := by
  refine F.ok sc_tell (fun vs H Q E h => ?_) (fun cdv A outer s H vs Q E hr h => ?_)
  · obtain ⟨x, y, z, c, l, b, rfl, _⟩ := h
    rfl
  · obtain ⟨x, y, z, c, l, b, rfl, ⟨p, dx, rfl, hp⟩, ⟨q, rfl, hq⟩, ⟨u, rfl, hu⟩, hl, k⟩ := h
    have c_NO_SUCH := cn.noSuch
    have c_UNFIT := cn.unfit
    have c_APART := cn.apart
    have k : RA H Q (if Sp.looked c l = false then Sp.says (-1) else if Sp.rising l = false ∨ l.length < c.k ∨ b.length ≠ l.length * (c.d * c.len) then Sp.says (-5) else match c.told l (Sp.rowsIn c l b) with
      | none => Sp.says (-9)
      | some d => Sp.gives (c.holds : Nat) d.flatten) := k
    refine ⟨_, (pss_cons (ps_if (pt_truth (pe_g g_is_missing (hr.mono (by decide)) rfl (pa_cons (pv 0) (pa_cons (pv 1) pa_nil))) (fun _ => rfl)) (pss_one (ps_ret (pe_lst (pa_cons (pe_ci c_NO_SUCH rfl) pa_nil)))) pss_nil)
      (pss_cons (ps_if (pt_truth (pe_g g_is_unfit (hr.mono (by decide)) rfl (pa_cons (pv 1) (pa_cons (pe_fld (pv 0) rfl) (pa_cons (pv 2) (pa_cons (pe_g g_node_bytes (hr.mono (by decide)) rfl (pa_cons (pv 0) pa_nil)) pa_nil))))) (fun _ => rfl)) (pss_one (ps_ret (pe_lst (pa_cons (pe_ci c_UNFIT rfl) pa_nil)))) pss_nil)
      (pss_cons (ps_set (i := 3) sc_tell.nd rfl (Or.inl rfl) (pe_g g_told_document (hr.mono (by decide)) rfl (pa_cons (pv 0) (pa_cons (pv 1) (pa_cons (pe_g g_cut (hr.mono (by decide)) rfl (pa_cons (pv 2) (pa_cons (pe_g g_node_bytes (hr.mono (by decide)) rfl (pa_cons (pv 0) pa_nil)) pa_nil))) pa_nil)))))
      (pss_cons (ps_if (pt_cmpR op_isN (pv 3) pe_non (nomark _)) (pss_one (ps_ret (pe_lst (pa_cons (pe_ci c_APART rfl) pa_nil)))) pss_nil)
      (pss_one (ps_ret (pe_op op_cat (pe_lst (pa_cons (pe_g g_document_rows (hr.mono (by decide)) rfl (pa_cons (pv 0) pa_nil)) pa_nil)) (pv 3)))))))), ?_⟩
    refine ⟨_, rfl, _, rfl, _, _, c, l, rfl, ⟨p, dx, rfl, hp⟩, ⟨q, rfl, hq⟩, hl, fun H1 s1 => ?_⟩
    refine ⟨_, rfl, ite2 (fun h => ?_) (fun h => ?_)⟩
    · rw [if_pos (not_f h)] at k
      exact ⟨z1L, fun l hl => k.one s1 hl⟩
    have h := not_t h
    rw [if_neg (by rw [h]; decide)] at k
    obtain ⟨o, hnn⟩ := looked_ok h
    have n9 := o.n9
    refine ⟨_, rfl, _, rfl, p, C, dx, _, _, rfl, s1 _ _ hp, T.cl, T.nk, codeF_k c, _, rfl, _, rfl, _, c, rfl, ⟨p, dx, rfl, s1 _ _ hp⟩, o, ?_⟩
    refine ⟨_, _, l, c.k, c.d * c.len, b, rfl, ⟨q, rfl, s1 _ _ hq⟩, ⟨u, rfl, s1 _ _ hu⟩, hl, fun H2 s2 => ?_⟩
    have s12 := s1.trans s2
    refine ⟨_, rfl, ite2 (fun h => ?_) (fun h => ?_)⟩
    · rw [if_pos (of_decide_eq_true h)] at k
      exact ⟨z1L, fun l hl => k.one s12 hl⟩
    rw [if_neg (fun e => h (decide_eq_true e))] at k
    obtain ⟨hri, hkl, hbl⟩ := unfit_not h
    have hn := rising_nodup hri
    have h9 : ∀ f ∈ l, f < 9 := fun f hf => Nat.lt_of_lt_of_le (hnn f hf) n9
    have h10 := rising_len hri h9
    have hdl := d_len_le o
    have hd1 : 1 ≤ c.d * c.len := Nat.mul_pos (Nat.le_trans o.k1 o.kd) o.l1
    have hbb : b.length ≤ 9 * 384 := by rw [hbl]; exact Nat.mul_le_mul h10 hdl
    refine ⟨_, rfl, _, rfl, _, rfl, _, rfl, _, c, rfl, ⟨p, dx, rfl, s12 _ _ hp⟩, o, ?_⟩
    refine ⟨_, b, c.d * c.len, l.length, rfl, ⟨u, rfl, s12 _ _ hu⟩, hd1, by omega, hbl, by omega, fun H3 v3 s3 hR => ?_⟩
    have s13 := s12.trans s3
    have hS := Rw.rowsOf_shape (L := c.d * c.len) (n := l.length) hbl
    have ht := Tld.toldM_eq o.k1 o.kd hn h9 hkl hS (rows := Sp.rowsIn c l b) (fun i hi => rowsIn_get hn hi)
    refine ⟨_, _, _, c, l, _, rfl, ⟨p, dx, rfl, s13 _ _ hp⟩, ⟨q, rfl, s13 _ _ hq⟩, hR.mono (nw_same _ _), o, hkl, h10, hn, h9, hS, ?_⟩
    rw [ht]
    cases ed : c.told l (Sp.rowsIn c l b) with
    | none =>
      intro H4 s4
      rw [ed] at k
      exact ⟨_, rfl, rfl, _, rfl, iteT ⟨z1L, fun l hl => k.one (s13.trans s4) hl⟩⟩
    | some d =>
      intro H4 a4 s4 n4 e4
      rw [ed] at k
      have s14 := s13.trans s4
      have hsh := (Tld.told_some o.kd (fun f hf => by
        obtain ⟨i, hi, rfl⟩ := List.mem_iff_getElem.mp hf
        have := rowsIn_get (c := c) (b := b) hn hi
        rw [List.getD_eq_getElem?_getD, List.getElem?_eq_getElem hi] at this
        show Shape c.d c.len (Sp.rowsIn c l b l[i])
        rw [show Sp.rowsIn c l b l[i] = _ from this]
        exact Rw.rowsOf_shape (Tld.getD_len hS hi)) ed).1
      have hfl := Rw.flat_len hsh.2
      rw [hsh.1] at hfl
      have hl2 := holds_len_le o
      refine ⟨_, rfl, rfl, _, rfl, iteF ?_⟩
      refine ⟨_, rfl, _, c, rfl, ⟨p, dx, rfl, s14 _ _ hp⟩, o, z1L, fun l2 hl2' => ?_⟩
      have s5 := (Same.new (o := .lst [nv c.holds]) hl2')
      exact ⟨_, rfl, l2, a4, _, _, rfl, rfl, upd_same, s5 _ _ e4, by rw [bvs_len, hfl]; show 1 + _ ≤ 2 ^ 24; omega, fun l3 hl3 => k.cat (by omega) (by rw [hfl]; omega) (s14.trans s5) hl3⟩
theorem sc_part : FnScope ["code", "node", "rows"] ["code", "node", "rows"] (defScope (top 46)) := ⟨rfl, rfl, rfl, by decide +kernel, rfl, by decide +kernel, by decide +kernel⟩
def sp_part (C : Addr) : L2.Sp := fun vs H Q _ => ∃ (x y : V) (c : Sp.Code) (n : Nat) (b : Sp.Bytes), vs = [x, nv n, y] ∧ IsCode C H x c ∧ IsB H y b ∧ RA H Q (codeA (.part c b n))
theorem ok_part {f : Addr} {fd : FuncData} (F : Fun K "part" "part" (top 46) f fd) (cn : Cn mg) (B : Bi mg) (T : Cc K C) (g_is_missing : Gd P w K mg base 2 "is_missing" ["code", "nodes"] (sp_is_missing C)) (g_node_bytes : Gd P w K mg base 1 "node_bytes" ["code"] (sp_node_bytes C))
    (g_part_for : Gd P w K mg base 3 "part_for" ["code", "node", "rows"] (sp_part_for C)) :
    FnOk P w K mg base CX0 4 f fd ["code", "node", "rows"] (sp_part C) := by
  refine F.ok sc_part (fun vs H Q E h => ?_) (fun cdv A outer s H vs Q E hr h => ?_)
  · obtain ⟨x, y, c, n, b, rfl, _⟩ := h
    rfl
  · obtain ⟨x, y, c, n, b, rfl, ⟨p, dx, rfl, hp⟩, ⟨q, rfl, hq⟩, k⟩ := h
    have c_NO_SUCH := cn.noSuch
    have c_UNFIT := cn.unfit
    have k : RA H Q (if Sp.looked c [n] = false then Sp.says (-1) else if b.length ≠ c.d * c.len then Sp.says (-5) else Sp.gives 1 (c.part (Sp.rowsOf c.len c.d b) n)) := k
    refine ⟨_, (pss_cons (ps_if (pt_truth (pe_g g_is_missing (hr.mono (by decide)) rfl (pa_cons (pv 0) (pa_cons (pe_lst (pa_cons (pv 1) pa_nil)) pa_nil))) (fun _ => rfl)) (pss_one (ps_ret (pe_lst (pa_cons (pe_ci c_NO_SUCH rfl) pa_nil)))) pss_nil)
      (pss_cons (ps_if (pt_cmpR op_ne (pe_callB call_len_seq rfl B.len PySem.boot_len (pa_cons (pv 2) pa_nil)) (pe_g g_node_bytes (hr.mono (by decide)) rfl (pa_cons (pv 0) pa_nil)) (nomark _)) (pss_one (ps_ret (pe_lst (pa_cons (pe_ci c_UNFIT rfl) pa_nil)))) pss_nil)
      (pss_one (ps_ret (pe_op op_cat (pe_lst (pa_cons pe_int pa_nil)) (pe_g g_part_for (hr.mono (by decide)) rfl (pa_cons (pv 0) (pa_cons (pv 1) (pa_cons (pv 2) pa_nil))))))))), ?_⟩
    refine ⟨_, rfl, _, rfl, z1L, fun l1 hl1 => ?_⟩
    have s1 : Same H (upd H l1 (.lst [nv n])) := .new hl1
    refine ⟨_, _, c, [n], rfl, ⟨p, dx, rfl, s1 _ _ hp⟩, ⟨l1, rfl, upd_same⟩, by show 1 ≤ 65536; decide, fun H1 s2 => ?_⟩
    have s12 := s1.trans s2
    refine ⟨_, rfl, ite2 (fun h => ?_) (fun h => ?_)⟩
    · rw [if_pos (not_f h)] at k
      exact ⟨z1L, fun l hl => k.one s12 hl⟩
    have h := not_t h
    rw [if_neg (by rw [h]; decide)] at k
    obtain ⟨o, hnn⟩ := looked_one h
    have n9 := o.n9
    refine ⟨_, rfl, q, _, rfl, .inl (SqL.of (s12 _ _ hq)), _, rfl, _, c, rfl, ⟨p, dx, rfl, s12 _ _ hp⟩, o, rfl, _, rfl, ite2 (fun h => ?_) (fun h => ?_)⟩
    · rw [bvs_len] at h
      rw [if_pos (ne_int.mp h)] at k
      exact ⟨z1L, fun l hl => k.one s12 hl⟩
    rw [bvs_len] at h
    have hb : b.length = c.d * c.len := Decidable.byContradiction fun e => h (ne_int.mpr e)
    rw [if_neg (fun e => e hb), part_vAt (Rw.rowsOf_shape hb)] at k
    refine ⟨z1L, fun l2 hl2 => ?_⟩
    have s3 := s12.trans (.new (o := .lst [V.int 1]) hl2)
    refine ⟨_, rfl, _, rfl, _, rfl, _, _, c, n, b, rfl, ⟨p, dx, rfl, s3 _ _ hp⟩, ⟨q, rfl, s3 _ _ hq⟩, o, by omega, hb, fun H4 a4 s5 n5 e5 => ?_⟩
    have hvl := Rw.vAt_len (L := c.len) (p := Sp.place n) (Rw.rowsOf_shape (L := c.len) (n := c.d) hb).2
    have l64 := o.l64
    exact ⟨l2, a4, _, _, rfl, rfl, s5 _ _ upd_same, e5, by rw [bvs_len, hvl]; show 1 + _ ≤ 2 ^ 24; omega, fun l3 hl3 => k.cat (by omega) (by rw [hvl]; omega) (s3.trans s5) hl3⟩
end
end Sn
end
section
set_option maxHeartbeats 4000000
namespace Sn
open PySem PySem.Spec PyProof.Rows L2
open Rw (vAt throughR)
open Tld (Ok likely toldM againM ok_iff)
open Gau (Shape)
section
variable {P : Program} {w : World} {K : PySem.W.Frag} {mg : Str → Option Value} {base : Heap} {C : Addr}
theorem nvs_cons (n : Nat) (l : List Nat) : [nv n] ++ nvs l = nvs (n :: l) := rfl
theorem contains_dec (l : List Nat) (n : Nat) : l.contains n = decide (n ∈ l) := by
  rw [Bool.eq_iff_iff]
  simp
theorem sc_again : FnScope ["code", "node", "nodes", "parts", "rows"] ["code", "node", "nodes", "parts"] (defScope (top 47)) := ⟨rfl, rfl, rfl, by decide +kernel, rfl, by decide +kernel, by decide +kernel⟩
def sp_again (C : Addr) : L2.Sp := fun vs H Q _ => ∃ (x y z : V) (c : Sp.Code) (n : Nat) (l : List Nat) (b : Sp.Bytes), vs = [x, nv n, y, z] ∧ IsCode C H x c ∧ IsN H y l ∧ IsB H z b ∧ l.length < 65536 ∧ RA H Q (codeA (.again c n l b))
theorem ok_again {f : Addr} {fd : FuncData} (F : Fun K "again" "again" (top 47) f fd) (cn : Cn mg) (B : Bi mg) (T : Cc K C) (g_is_missing : Gd P w K mg base 2 "is_missing" ["code", "nodes"] (sp_is_missing C)) (g_is_unfit : Gd P w K mg base 2 "is_unfit" ["nodes", "fewest", "row", "bytes_each"] sp_is_unfit)
    (g_cut : Gd P w K mg base 1 "cut" ["row", "length"] sp_cut) (g_made_again : Gd P w K mg base 4 "made_again" ["code", "nodes", "parts"] (sp_made_again C)) :
    FnOk P w K mg base CX0 5 f fd ["code", "node", "nodes", "parts"] (sp_again C) := by
  refine F.ok sc_again (fun vs H Q E h => ?_) (fun cdv A outer s H vs Q E hr h => ?_)
  · obtain ⟨x, y, z, c, n, l, b, rfl, _⟩ := h
    rfl
  · obtain ⟨x, y, z, c, n, l, b, rfl, ⟨p, dx, rfl, hp⟩, ⟨q, rfl, hq⟩, ⟨u, rfl, hu⟩, hl, k⟩ := h
    have c_NO_SUCH := cn.noSuch
    have c_UNFIT := cn.unfit
    have c_APART := cn.apart
    have c_NOT_LET := cn.notLet
    have k : RA H Q (if Sp.looked c (n :: l) = false then Sp.says (-1) else if l.contains n = true then Sp.says (-4) else if Sp.rising l = false ∨ l.length < c.d ∨ b.length ≠ l.length * c.len then Sp.says (-5) else match c.again l (Sp.partsIn c l b) with
      | none => Sp.says (-9)
      | some r => Sp.gives (c.d : Nat) r.flatten) := k
    refine ⟨_, (pss_cons (ps_if (pt_truth (pe_g g_is_missing (hr.mono (by decide)) rfl (pa_cons (pv 0) (pa_cons (pe_op op_cat (pe_lst (pa_cons (pv 1) pa_nil)) (pv 2)) pa_nil))) (fun _ => rfl)) (pss_one (ps_ret (pe_lst (pa_cons (pe_ci c_NO_SUCH rfl) pa_nil)))) pss_nil)
      (pss_cons (ps_if (pt_cmpR op_in_seq (pv 1) (pv 2) (by with_unfolding_all rfl)) (pss_one (ps_ret (pe_lst (pa_cons (pe_ci c_NOT_LET rfl) pa_nil)))) pss_nil)
      (pss_cons (ps_if (pt_truth (pe_g g_is_unfit (hr.mono (by decide)) rfl (pa_cons (pv 2) (pa_cons (pe_fld (pv 0) rfl) (pa_cons (pv 3) (pa_cons (pe_fld (pv 0) rfl) pa_nil))))) (fun _ => rfl)) (pss_one (ps_ret (pe_lst (pa_cons (pe_ci c_UNFIT rfl) pa_nil)))) pss_nil)
      (pss_cons (ps_set (i := 4) sc_again.nd rfl (Or.inl rfl) (pe_g g_made_again (hr.mono (by decide)) rfl (pa_cons (pv 0) (pa_cons (pv 2) (pa_cons (pe_g g_cut (hr.mono (by decide)) rfl (pa_cons (pv 3) (pa_cons (pe_fld (pv 0) rfl) pa_nil))) pa_nil)))))
      (pss_cons (ps_if (pt_cmpR op_isN (pv 4) pe_non (nomark _)) (pss_one (ps_ret (pe_lst (pa_cons (pe_ci c_APART rfl) pa_nil)))) pss_nil)
      (pss_one (ps_ret (pe_op op_cat (pe_lst (pa_cons (pe_fld (pv 0) rfl) pa_nil)) (pv 4))))))))), ?_⟩
    refine ⟨_, rfl, _, rfl, z1L, fun l1 hl1 => ?_⟩
    have s1 : Same H (upd H l1 (.lst [nv n])) := .new hl1
    refine ⟨_, rfl, l1, q, _, _, rfl, rfl, upd_same, s1 _ _ hq, by rw [nvs_len]; show 1 + _ ≤ 2 ^ 24; omega, fun l2 hl2 => ?_⟩
    rw [nvs_cons]
    have s2 := s1.trans (.new (o := .lst (nvs (n :: l))) hl2)
    refine ⟨_, _, c, n :: l, rfl, ⟨p, dx, rfl, s2 _ _ hp⟩, ⟨l2, rfl, upd_same⟩, by rw [List.length_cons]; omega, fun H3 s3 => ?_⟩
    have s12 := s2.trans s3
    refine ⟨_, rfl, ite2 (fun h => ?_) (fun h => ?_)⟩
    · rw [if_pos (not_f h)] at k
      exact ⟨z1L, fun l hl => k.one s12 hl⟩
    have h := not_t h
    rw [if_neg (by rw [h]; decide)] at k
    obtain ⟨o, hnn⟩ := looked_ok h
    have n9 := o.n9
    refine ⟨_, rfl, _, rfl, q, nvs l, rfl, .inl (SqL.of (s12 _ _ hq)), rfl, nvs_flat _, _, rfl, ite2 (fun h => ?_) (fun h => ?_)⟩
    · have h : inV (nv n) (nvs l) = true := h
      rw [nv_in, ← contains_dec] at h
      rw [if_pos h] at k
      exact ⟨z1L, fun l hl => k.one s12 hl⟩
    have h : ¬ inV (nv n) (nvs l) = true := h
    rw [nv_in, ← contains_dec] at h
    rw [if_neg h] at k
    refine ⟨_, rfl, _, rfl, p, C, dx, _, _, rfl, s12 _ _ hp, T.cl, T.nd, codeF_d c, _, rfl, _, rfl, p, C, dx, _, _, rfl, s12 _ _ hp, T.cl, T.nw, codeF_w c, ?_⟩
    refine ⟨_, _, l, c.d, c.len, b, rfl, ⟨q, rfl, s12 _ _ hq⟩, ⟨u, rfl, s12 _ _ hu⟩, by omega, fun H4 s4 => ?_⟩
    have s14 := s12.trans s4
    refine ⟨_, rfl, ite2 (fun h => ?_) (fun h => ?_)⟩
    · rw [if_pos (of_decide_eq_true h)] at k
      exact ⟨z1L, fun l hl => k.one s14 hl⟩
    rw [if_neg (fun e => h (decide_eq_true e))] at k
    obtain ⟨hri, hkl, hbl⟩ := unfit_not h
    have hn := rising_nodup hri
    have h9 : ∀ f ∈ l, f < 9 := fun f hf => Nat.lt_of_lt_of_le (hnn f (List.mem_cons_of_mem _ hf)) n9
    have h10 := rising_len hri h9
    have l1' := o.l1
    have l64 := o.l64
    have d6 := o.d6
    have hbb : b.length ≤ 9 * 64 := by rw [hbl]; exact Nat.mul_le_mul h10 l64
    refine ⟨_, rfl, _, rfl, _, rfl, _, rfl, p, C, dx, _, _, rfl, s14 _ _ hp, T.cl, T.nw, codeF_w c, ?_⟩
    refine ⟨_, b, c.len, l.length, rfl, ⟨u, rfl, s14 _ _ hu⟩, l1', by omega, hbl, by omega, fun H5 v5 s5 hR => ?_⟩
    have s15 := s14.trans s5
    have hS := Rw.rowsOf_shape (L := c.len) (n := l.length) hbl
    have d1 : 1 ≤ c.d := Nat.le_trans o.k1 o.kd
    have hpl : ∀ f ∈ l, (Sp.partsIn c l b f).length = c.len := fun f hf => by
      obtain ⟨i, hi, rfl⟩ := List.mem_iff_getElem.mp hf
      have := partsIn_get (c := c) (b := b) hn hi
      rw [List.getD_eq_getElem?_getD, List.getElem?_eq_getElem hi] at this
      show (Sp.partsIn c l b l[i]).length = c.len
      rw [show Sp.partsIn c l b l[i] = _ from this]
      exact Tld.getD_len hS hi
    have ht := Tld.againM_eq d1 hn h9 hkl hS (parts := Sp.partsIn c l b) (fun i hi => partsIn_get hn hi)
    refine ⟨_, _, _, c, l, _, rfl, ⟨p, dx, rfl, s15 _ _ hp⟩, ⟨q, rfl, s15 _ _ hq⟩, hR.mono (nw_same _ _), o, hkl, h10, hn, h9, hS, ?_⟩
    rw [ht]
    cases ed : c.again l (Sp.partsIn c l b) with
    | none =>
      intro H6 s6
      rw [ed] at k
      exact ⟨_, rfl, rfl, _, rfl, iteT ⟨z1L, fun l hl => k.one (s15.trans s6) hl⟩⟩
    | some r =>
      intro H6 a6 s6 n6 e6
      rw [ed] at k
      have s16 := s15.trans s6
      have hsh := (Tld.again_some hpl ed).1
      have hfl := Rw.flat_len hsh.2
      rw [hsh.1] at hfl
      have hdl := d_len_le o
      refine ⟨_, rfl, rfl, _, rfl, iteF ?_⟩
      refine ⟨_, rfl, p, C, dx, _, _, rfl, s16 _ _ hp, T.cl, T.nd, codeF_d c, z1L, fun l7 hl7 => ?_⟩
      have s7 := (Same.new (o := .lst [nv c.d]) hl7)
      exact ⟨_, rfl, l7, a6, _, _, rfl, rfl, upd_same, s7 _ _ e6, by rw [bvs_len, hfl]; show 1 + _ ≤ 2 ^ 24; omega, fun l3 hl3 => k.cat (by omega) (by rw [hfl]; omega) (s16.trans s7) hl3⟩
theorem sc_agree : FnScope ["code", "i", "j", "rows_i", "rows_j"] ["code", "i", "j", "rows_i", "rows_j"] (defScope (top 48)) := ⟨rfl, rfl, rfl, by decide +kernel, rfl, by decide +kernel, by decide +kernel⟩
def sp_agree (C : Addr) : L2.Sp := fun vs H Q _ => ∃ (x y z : V) (c : Sp.Code) (i j : Nat) (a b : Sp.Bytes), vs = [x, nv i, nv j, y, z] ∧ IsCode C H x c ∧ IsB H y a ∧ IsB H z b ∧ RA H Q (codeA (.agree c i a j b))
theorem ok_agree {f : Addr} {fd : FuncData} (F : Fun K "agree" "agree" (top 48) f fd) (cn : Cn mg) (B : Bi mg) (T : Cc K C) (g_is_missing : Gd P w K mg base 2 "is_missing" ["code", "nodes"] (sp_is_missing C)) (g_node_bytes : Gd P w K mg base 1 "node_bytes" ["code"] (sp_node_bytes C))
    (g_are_agreeing : Gd P w K mg base 4 "are_agreeing" ["code", "i", "j", "rows_i", "rows_j"] (sp_are_agreeing C)) :
    FnOk P w K mg base CX0 5 f fd ["code", "i", "j", "rows_i", "rows_j"] (sp_agree C) := by
  refine F.ok sc_agree (fun vs H Q E h => ?_) (fun cdv A outer s H vs Q E hr h => ?_)
  · obtain ⟨x, y, z, c, i, j, a, b, rfl, _⟩ := h
    rfl
  · obtain ⟨x, y, z, c, i, j, a, b, rfl, ⟨p, dx, rfl, hp⟩, ⟨q, rfl, hq⟩, ⟨u, rfl, hu⟩, k⟩ := h
    have c_NO_SUCH := cn.noSuch
    have c_UNFIT := cn.unfit
    have k : RA H Q (if Sp.looked c [i, j] = false then Sp.says (-1) else if a.length ≠ c.d * c.len ∨ b.length ≠ c.d * c.len then Sp.says (-5) else Sp.says (if c.agree i (Sp.rowsOf c.len c.d a) j (Sp.rowsOf c.len c.d b) = true then 1 else 0)) := k
    refine ⟨_, (pss_cons (ps_if (pt_truth (pe_g g_is_missing (hr.mono (by decide)) rfl (pa_cons (pv 0) (pa_cons (pe_lst (pa_cons (pv 1) (pa_cons (pv 2) pa_nil))) pa_nil))) (fun _ => rfl)) (pss_one (ps_ret (pe_lst (pa_cons (pe_ci c_NO_SUCH rfl) pa_nil)))) pss_nil)
      (pss_cons (ps_if (PW.pt (pw_or (pt_cmpR op_ne (pe_callB call_len_seq rfl B.len PySem.boot_len (pa_cons (pv 3) pa_nil)) (pe_g g_node_bytes (hr.mono (by decide)) rfl (pa_cons (pv 0) pa_nil)) (nomark _)) (pw_or1 (pt_cmpR op_ne (pe_callB call_len_seq rfl B.len PySem.boot_len (pa_cons (pv 4) pa_nil)) (pe_g g_node_bytes (hr.mono (by decide)) rfl (pa_cons (pv 0) pa_nil)) (nomark _))))) (pss_one (ps_ret (pe_lst (pa_cons (pe_ci c_UNFIT rfl) pa_nil)))) pss_nil)
      (pss_one (ps_ret (pe_lst (pa_cons (pe_ifExp (pt_truth (pe_g g_are_agreeing (hr.mono (by decide)) rfl (pa_cons (pv 0) (pa_cons (pv 1) (pa_cons (pv 2) (pa_cons (pv 3) (pa_cons (pv 4) pa_nil)))))) (fun _ => rfl)) pe_int pe_int) pa_nil)))))), ?_⟩
    refine ⟨_, rfl, _, rfl, _, rfl, by show 2 ≤ 2 ^ 24; decide, fun l1 hl1 => ?_⟩
    have s1 : Same H (upd H l1 (.lst [nv i, nv j])) := .new hl1
    refine ⟨_, _, c, [i, j], rfl, ⟨p, dx, rfl, s1 _ _ hp⟩, ⟨l1, rfl, upd_same⟩, by show 2 ≤ 65536; decide, fun H1 s2 => ?_⟩
    have s12 := s1.trans s2
    refine ⟨_, rfl, ite2 (fun h => ?_) (fun h => ?_)⟩
    · rw [if_pos (not_f h)] at k
      exact ⟨z1L, fun l hl => k.one s12 hl⟩
    have h := not_t h
    rw [if_neg (by rw [h]; decide)] at k
    obtain ⟨o, hnn⟩ := looked_ok h
    have n9 := o.n9
    have hi := hnn i (by simp)
    have hj := hnn j (by simp)
    have unf : ∀ H', Same H H' → (a.length ≠ c.d * c.len ∨ b.length ≠ c.d * c.len) → (1 ≤ sizeLine ∧ ∀ l, H' l = none → Q (.ref l) (upd H' l (.lst [V.int (-5)]))) := fun H' s' e => by
      rw [if_pos e] at k
      exact ⟨z1L, fun l hl => k.one s' hl⟩
    refine ⟨_, rfl, q, _, rfl, .inl (SqL.of (s12 _ _ hq)), _, rfl, _, c, rfl, ⟨p, dx, rfl, s12 _ _ hp⟩, o, rfl, _, rfl, ite2 (fun h => ?_) (fun h => ?_)⟩
    · rw [bvs_len] at h
      exact iteT (unf H1 s12 (.inl (ne_int.mp h)))
    rw [bvs_len] at h
    have ha : a.length = c.d * c.len := Decidable.byContradiction fun e => h (ne_int.mpr e)
    refine ⟨_, rfl, u, _, rfl, .inl (SqL.of (s12 _ _ hu)), _, rfl, _, c, rfl, ⟨p, dx, rfl, s12 _ _ hp⟩, o, rfl, _, rfl, ite2 (fun h => ?_) (fun h => ?_)⟩
    · rw [bvs_len] at h
      exact unf H1 s12 (.inr (ne_int.mp h))
    rw [bvs_len] at h
    have hb : b.length = c.d * c.len := Decidable.byContradiction fun e => h (ne_int.mpr e)
    rw [if_neg (fun e => e.elim (fun z => z ha) (fun z => z hb))] at k
    refine ⟨_, rfl, _, rfl, _, rfl, _, rfl, _, rfl, _, _, _, c, i, j, a, b, rfl, ⟨p, dx, rfl, s12 _ _ hp⟩, ⟨q, rfl, s12 _ _ hq⟩, ⟨u, rfl, s12 _ _ hu⟩, o, by omega, by omega, ha, hb, fun H3 s3 => ?_⟩
    refine ⟨_, rfl, ite2 (fun h => ?_) (fun h => ?_)⟩
    · rw [if_pos h] at k
      exact ⟨z1L, fun l hl => k.one (s12.trans s3) hl⟩
    · rw [if_neg h] at k
      exact ⟨z1L, fun l hl => k.one (s12.trans s3) hl⟩
theorem sc_change : FnScope ["code", "node", "i", "rows", "difference"] ["code", "node", "i", "rows", "difference"] (defScope (top 49)) := ⟨rfl, rfl, rfl, by decide +kernel, rfl, by decide +kernel, by decide +kernel⟩
def sp_change (C : Addr) : L2.Sp := fun vs H Q _ => ∃ (x y z : V) (c : Sp.Code) (f i : Nat) (a e : Sp.Bytes), vs = [x, nv f, nv i, y, z] ∧ IsCode C H x c ∧ IsB H y a ∧ IsB H z e ∧ RA H Q (codeA (.change c f a i e))
theorem ok_change {f : Addr} {fd : FuncData} (F : Fun K "change" "change" (top 49) f fd) (cn : Cn mg) (B : Bi mg) (T : Cc K C) (g_is_missing : Gd P w K mg base 2 "is_missing" ["code", "nodes"] (sp_is_missing C)) (g_node_bytes : Gd P w K mg base 1 "node_bytes" ["code"] (sp_node_bytes C))
    (g_document_rows : Gd P w K mg base 2 "document_rows" ["code"] (sp_document_rows C)) (g_changed_rows : Gd P w K mg base 4 "changed_rows" ["code", "node", "rows", "i", "difference"] (sp_changed_rows C)) :
    FnOk P w K mg base CX0 5 f fd ["code", "node", "i", "rows", "difference"] (sp_change C) := by
  refine F.ok sc_change (fun vs H Q E h => ?_) (fun cdv A outer s H vs Q E hr h => ?_)
  · obtain ⟨x, y, z, c, f, i, a, e, rfl, _⟩ := h
    rfl
  · obtain ⟨x, y, z, c, f, i, a, e, rfl, ⟨p, dx, rfl, hp⟩, ⟨q, rfl, hq⟩, ⟨u, rfl, hu⟩, k⟩ := h
    have c_NO_SUCH := cn.noSuch
    have c_UNFIT := cn.unfit
    have c_NOT_LET := cn.notLet
    have k : RA H Q (if Sp.looked c [f] = false then Sp.says (-1) else if c.holds ≤ i then Sp.says (-4) else if a.length ≠ c.d * c.len ∨ e.length ≠ c.len then Sp.says (-5) else Sp.gives 0 (c.changed f (Sp.rowsOf c.len c.d a) i e).flatten) := k
    refine ⟨_, (pss_cons (ps_if (pt_truth (pe_g g_is_missing (hr.mono (by decide)) rfl (pa_cons (pv 0) (pa_cons (pe_lst (pa_cons (pv 1) pa_nil)) pa_nil))) (fun _ => rfl)) (pss_one (ps_ret (pe_lst (pa_cons (pe_ci c_NO_SUCH rfl) pa_nil)))) pss_nil)
      (pss_cons (ps_if (pt_cmpR op_ge (pv 2) (pe_g g_document_rows (hr.mono (by decide)) rfl (pa_cons (pv 0) pa_nil)) (nomark _)) (pss_one (ps_ret (pe_lst (pa_cons (pe_ci c_NOT_LET rfl) pa_nil)))) pss_nil)
      (pss_cons (ps_if (PW.pt (pw_or (pt_cmpR op_ne (pe_callB call_len_seq rfl B.len PySem.boot_len (pa_cons (pv 3) pa_nil)) (pe_g g_node_bytes (hr.mono (by decide)) rfl (pa_cons (pv 0) pa_nil)) (nomark _)) (pw_or1 (pt_cmpR op_ne (pe_callB call_len_seq rfl B.len PySem.boot_len (pa_cons (pv 4) pa_nil)) (pe_fld (pv 0) rfl) (nomark _))))) (pss_one (ps_ret (pe_lst (pa_cons (pe_ci c_UNFIT rfl) pa_nil)))) pss_nil)
      (pss_one (ps_ret (pe_op op_cat (pe_lst (pa_cons pe_int pa_nil)) (pe_g g_changed_rows (hr.mono (by decide)) rfl (pa_cons (pv 0) (pa_cons (pv 1) (pa_cons (pv 3) (pa_cons (pv 2) (pa_cons (pv 4) pa_nil)))))))))))), ?_⟩
    refine ⟨_, rfl, _, rfl, z1L, fun l1 hl1 => ?_⟩
    have s1 : Same H (upd H l1 (.lst [nv f])) := .new hl1
    refine ⟨_, _, c, [f], rfl, ⟨p, dx, rfl, s1 _ _ hp⟩, ⟨l1, rfl, upd_same⟩, by show 1 ≤ 65536; decide, fun H1 s2 => ?_⟩
    have s12 := s1.trans s2
    refine ⟨_, rfl, ite2 (fun h => ?_) (fun h => ?_)⟩
    · rw [if_pos (not_f h)] at k
      exact ⟨z1L, fun l hl => k.one s12 hl⟩
    have h := not_t h
    rw [if_neg (by rw [h]; decide)] at k
    obtain ⟨o, hnn⟩ := looked_one h
    have n9 := o.n9
    refine ⟨_, rfl, _, rfl, _, c, rfl, ⟨p, dx, rfl, s12 _ _ hp⟩, o, _, _, rfl, rfl, _, rfl, ite2 (fun h => ?_) (fun h => ?_)⟩
    · have h := of_decide_eq_true h
      rw [if_pos (by omega)] at k
      exact ⟨z1L, fun l hl => k.one s12 hl⟩
    have hi : i < c.holds := by
      have : ¬ ((c.holds : Int) ≤ (i : Int)) := fun e => h (decide_eq_true e)
      omega
    rw [if_neg (by omega)] at k
    have unf : ∀ H', Same H H' → (a.length ≠ c.d * c.len ∨ e.length ≠ c.len) → (1 ≤ sizeLine ∧ ∀ l, H' l = none → Q (.ref l) (upd H' l (.lst [V.int (-5)]))) := fun H' s' e => by
      rw [if_pos e] at k
      exact ⟨z1L, fun l hl => k.one s' hl⟩
    refine ⟨_, rfl, q, _, rfl, .inl (SqL.of (s12 _ _ hq)), _, rfl, _, c, rfl, ⟨p, dx, rfl, s12 _ _ hp⟩, o, rfl, _, rfl, ite2 (fun h => ?_) (fun h => ?_)⟩
    · rw [bvs_len] at h
      exact iteT (unf H1 s12 (.inl (ne_int.mp h)))
    rw [bvs_len] at h
    have ha : a.length = c.d * c.len := Decidable.byContradiction fun e => h (ne_int.mpr e)
    refine ⟨_, rfl, u, _, rfl, .inl (SqL.of (s12 _ _ hu)), _, rfl, p, C, dx, _, _, rfl, s12 _ _ hp, T.cl, T.nw, codeF_w c, rfl, _, rfl, ite2 (fun h => ?_) (fun h => ?_)⟩
    · rw [bvs_len] at h
      exact unf H1 s12 (.inr (ne_int.mp h))
    rw [bvs_len] at h
    have he : e.length = c.len := Decidable.byContradiction fun z => h (ne_int.mpr z)
    rw [if_neg (fun z => z.elim (fun z => z ha) (fun z => z he))] at k
    refine ⟨z1L, fun l2 hl2 => ?_⟩
    have s3 := s12.trans (.new (o := .lst [V.int 0]) hl2)
    refine ⟨_, rfl, _, rfl, _, rfl, _, rfl, _, rfl, _, _, _, c, f, i, a, e, rfl, ⟨p, dx, rfl, s3 _ _ hp⟩, ⟨q, rfl, s3 _ _ hq⟩, ⟨u, rfl, s3 _ _ hu⟩, o, by omega, hi, ha, he, fun H4 a4 s5 n5 e5 => ?_⟩
    have hcl : (c.changed f (Sp.rowsOf c.len c.d a) i e).flatten.length ≤ c.d * c.len := by
      rw [changed_flat o.kd hi he ha, Rw.xor_len]
      omega
    have hdl := d_len_le o
    exact ⟨l2, a4, _, _, rfl, rfl, s5 _ _ upd_same, e5, by rw [bvs_len]; show 1 + _ ≤ 2 ^ 24; omega, fun l3 hl3 => k.cat (by omega) (by omega) (s3.trans s5) hl3⟩
theorem sc_wrong : FnScope ["code", "nodes", "rows", "held", "wrong_ones"] ["code", "nodes", "rows"] (defScope (top 50)) := ⟨rfl, rfl, rfl, by decide +kernel, rfl, by decide +kernel, by decide +kernel⟩
def sp_wrong (C : Addr) : L2.Sp := fun vs H Q _ => ∃ (x y z : V) (c : Sp.Code) (l : List Nat) (b : Sp.Bytes), vs = [x, y, z] ∧ IsCode C H x c ∧ IsN H y l ∧ IsB H z b ∧ l.length ≤ 65536 ∧ RA H Q (codeA (.wrong c l b))
theorem ok_wrong {f : Addr} {fd : FuncData} (F : Fun K "wrong" "wrong" (top 50) f fd) (cn : Cn mg) (B : Bi mg) (T : Cc K C) (g_is_missing : Gd P w K mg base 2 "is_missing" ["code", "nodes"] (sp_is_missing C)) (g_is_unfit : Gd P w K mg base 2 "is_unfit" ["nodes", "fewest", "row", "bytes_each"] sp_is_unfit)
    (g_node_bytes : Gd P w K mg base 1 "node_bytes" ["code"] (sp_node_bytes C)) (g_cut : Gd P w K mg base 1 "cut" ["row", "length"] sp_cut) (g_told_document : Gd P w K mg base 5 "told_document" ["code", "nodes", "held"] (sp_told_document C)) (g_wrong_nodes : Gd P w K mg base 5 "wrong_nodes" ["code", "nodes", "held"] (sp_wrong_nodes C)) :
    FnOk P w K mg base CX0 6 f fd ["code", "nodes", "rows"] (sp_wrong C) := by
  refine F.ok sc_wrong (fun vs H Q E h => ?_) (fun cdv A outer s H vs Q E hr h => ?_)
  · obtain ⟨x, y, z, c, l, b, rfl, _⟩ := h
    rfl
  · obtain ⟨x, y, z, c, l, b, rfl, ⟨p, dx, rfl, hp⟩, ⟨q, rfl, hq⟩, ⟨u, rfl, hu⟩, hl, k⟩ := h
    have c_NO_SUCH := cn.noSuch
    have c_UNFIT := cn.unfit
    have c_APART := cn.apart
    have k : RA H Q (if Sp.looked c l = false then Sp.says (-1) else if Sp.rising l = false ∨ l.length < c.k + 2 ∨ b.length ≠ l.length * (c.d * c.len) then Sp.says (-5) else if (c.told l (Sp.rowsIn c l b)).isSome = true then Sp.says 0 else match c.wrong l (Sp.rowsIn c l b) with
      | none => Sp.says (-9)
      | some w => Sp.tells 1 [w]) := k
    refine ⟨_, (pss_cons (ps_if (pt_truth (pe_g g_is_missing (hr.mono (by decide)) rfl (pa_cons (pv 0) (pa_cons (pv 1) pa_nil))) (fun _ => rfl)) (pss_one (ps_ret (pe_lst (pa_cons (pe_ci c_NO_SUCH rfl) pa_nil)))) pss_nil)
      (pss_cons (ps_if (pt_truth (pe_g g_is_unfit (hr.mono (by decide)) rfl (pa_cons (pv 1) (pa_cons (pe_op op_add (pe_fld (pv 0) rfl) pe_int) (pa_cons (pv 2) (pa_cons (pe_g g_node_bytes (hr.mono (by decide)) rfl (pa_cons (pv 0) pa_nil)) pa_nil))))) (fun _ => rfl)) (pss_one (ps_ret (pe_lst (pa_cons (pe_ci c_UNFIT rfl) pa_nil)))) pss_nil)
      (pss_cons (ps_set (i := 3) sc_wrong.nd rfl (Or.inl rfl) (pe_g g_cut (hr.mono (by decide)) rfl (pa_cons (pv 2) (pa_cons (pe_g g_node_bytes (hr.mono (by decide)) rfl (pa_cons (pv 0) pa_nil)) pa_nil))))
      (pss_cons (ps_if (pt_cmpR op_notN (pe_g g_told_document (hr.mono (by decide)) rfl (pa_cons (pv 0) (pa_cons (pv 1) (pa_cons (pv 3) pa_nil)))) pe_non (nomark _)) (pss_one (ps_ret (pe_lst (pa_cons pe_int pa_nil)))) pss_nil)
      (pss_cons (ps_set (i := 4) sc_wrong.nd rfl (Or.inl rfl) (pe_g g_wrong_nodes (hr.mono (by decide)) rfl (pa_cons (pv 0) (pa_cons (pv 1) (pa_cons (pv 3) pa_nil)))))
      (pss_cons (ps_if (pt_cmpR op_ne (pe_callB call_len_seq rfl B.len PySem.boot_len (pa_cons (pv 4) pa_nil)) pe_int (nomark _)) (pss_one (ps_ret (pe_lst (pa_cons (pe_ci c_APART rfl) pa_nil)))) pss_nil)
      (pss_one (ps_ret (pe_lst (pa_cons pe_int (pa_cons (pe_ix ix_list (pv 4) pe_int (fun _ _ => rfl)) pa_nil))))))))))), ?_⟩
    refine ⟨_, rfl, _, rfl, _, _, c, l, rfl, ⟨p, dx, rfl, hp⟩, ⟨q, rfl, hq⟩, hl, fun H1 s1 => ?_⟩
    refine ⟨_, rfl, ite2 (fun h => ?_) (fun h => ?_)⟩
    · rw [if_pos (not_f h)] at k
      exact ⟨z1L, fun l hl => k.one s1 hl⟩
    have h := not_t h
    rw [if_neg (by rw [h]; decide)] at k
    obtain ⟨o, hnn⟩ := looked_ok h
    have n9 := o.n9
    refine ⟨_, rfl, _, rfl, p, C, dx, _, _, rfl, s1 _ _ hp, T.cl, T.nk, codeF_k c, _, _, rfl, rfl, _, rfl, _, rfl, _, c, rfl, ⟨p, dx, rfl, s1 _ _ hp⟩, o, ?_⟩
    refine ⟨_, _, l, c.k + 2, c.d * c.len, b, rfl, ⟨q, rfl, s1 _ _ hq⟩, ⟨u, rfl, s1 _ _ hu⟩, hl, fun H2 s2 => ?_⟩
    have s12 := s1.trans s2
    refine ⟨_, rfl, ite2 (fun h => ?_) (fun h => ?_)⟩
    · rw [if_pos (of_decide_eq_true h)] at k
      exact ⟨z1L, fun l hl => k.one s12 hl⟩
    rw [if_neg (fun e => h (decide_eq_true e))] at k
    obtain ⟨hri, hkl, hbl⟩ := unfit_not h
    have hn := rising_nodup hri
    have h9 : ∀ f ∈ l, f < 9 := fun f hf => Nat.lt_of_lt_of_le (hnn f hf) n9
    have h10 := rising_len hri h9
    have hdl := d_len_le o
    have hd1 : 1 ≤ c.d * c.len := Nat.mul_pos (Nat.le_trans o.k1 o.kd) o.l1
    have hbb : b.length ≤ 9 * 384 := by rw [hbl]; exact Nat.mul_le_mul h10 hdl
    refine ⟨_, rfl, _, rfl, _, c, rfl, ⟨p, dx, rfl, s12 _ _ hp⟩, o, ?_⟩
    refine ⟨_, b, c.d * c.len, l.length, rfl, ⟨u, rfl, s12 _ _ hu⟩, hd1, by omega, hbl, by omega, fun H3 v3 s3 hR => ?_⟩
    have hR := hR.mono (nw_same _ _)
    have s13 := s12.trans s3
    have hS := Rw.rowsOf_shape (L := c.d * c.len) (n := l.length) hbl
    have ht := Tld.toldM_eq o.k1 o.kd hn h9 (by omega) hS (rows := Sp.rowsIn c l b) (fun i hi => rowsIn_get hn hi)
    refine ⟨_, rfl, _, rfl, _, rfl, _, _, _, c, l, _, rfl, ⟨p, dx, rfl, s13 _ _ hp⟩, ⟨q, rfl, s13 _ _ hq⟩, hR, o, by omega, h10, hn, h9, hS, ?_⟩
    rw [ht]
    cases ed : c.told l (Sp.rowsIn c l b) with
    | some d =>
      intro H4 a4 s4 n4 e4
      rw [ed] at k
      exact ⟨rfl, _, rfl, iteT ⟨z1L, fun l hl => k.one (s13.trans s4) hl⟩⟩
    | none =>
      intro H4 s4
      rw [ed] at k
      have s14 := s13.trans s4
      refine ⟨rfl, _, rfl, iteF ?_⟩
      refine ⟨_, rfl, _, rfl, _, rfl, _, _, _, c, l, _, _, rfl, ⟨p, dx, rfl, s14 _ _ hp⟩, ⟨q, rfl, s14 _ _ hq⟩, hR.mono s4, o, by omega, h10, hn, h9, hS, fun i hi => rowsIn_get hn hi, ed, fun H5 a5 s5 n5 e5 => ?_⟩
      have s15 := s14.trans s5
      have k : RA H Q (match (match l.filter fun (w : Nat) => (c.told (l.filter fun (f : Nat) => f != w) (Sp.rowsIn c l b)).isSome with
          | [w] => some w
          | _ => none : Option Nat) with
        | none => Sp.says (-9)
        | some w => Sp.tells 1 [w]) := k
      generalize (l.filter fun (w : Nat) => (c.told (l.filter fun (f : Nat) => f != w) (Sp.rowsIn c l b)).isSome) = W at k e5
      refine ⟨_, rfl, a5, _, rfl, .inl (SqL.of e5), rfl, _, rfl, ite2 (fun h => ?_) (fun h => ?_)⟩
      · rw [nvs_len] at h
        have h : W.length ≠ 1 := ne_int.mp h
        have k : RA H Q (Sp.says (-9)) := by
          match W, h, k with
          | [], _, k => exact k
          | [w], h, _ => exact absurd rfl h
          | _ :: _ :: _, _, k => exact k
        exact ⟨z1L, fun l hl => k.one s15 hl⟩
      · rw [nvs_len] at h
        have h : W.length = 1 := Decidable.byContradiction fun e => h (ne_int.mpr e)
        obtain ⟨w, rfl⟩ := List.length_eq_one_iff.mp h
        exact ⟨_, rfl, a5, _, _, _, rfl, rfl, SqL.of e5, atI_nat (j := 0) rfl, by show 2 ≤ 2 ^ 24; decide, fun l hl => RA.tells (ns := [w]) k (by show 1 < 4000; decide) s15 hl⟩
end
end Sn
end
section
set_option maxHeartbeats 2000000
namespace Sn
open PySem PySem.Spec PyProof.Rows L2
open Tld (Ok ok_iff)
open Gau (Shape)
open Rw (vAt)
variable {Bd : Addr → Prop}
theorem flatMap_ext {α β : Type} {l : List α} {g h : α → List β} (e : ∀ f ∈ l, g f = h f) : l.flatMap g = l.flatMap h := by
  rw [List.flatMap_def, List.flatMap_def, List.map_congr_left e]
theorem told_ext {c : Sp.Code} {l : List Nat} {r r' : Nat → List Sp.Bytes} (e : ∀ f ∈ l, r f = r' f) : c.told l r = c.told l r' := by
  unfold Sp.Code.told Sp.Code.says
  rw [flatMap_ext fun f hf => by rw [e f hf]]
theorem again_ext {c : Sp.Code} {l : List Nat} {r r' : Nat → Sp.Bytes} (e : ∀ f ∈ l, r f = r' f) : c.again l r = c.again l r' := by
  unfold Sp.Code.again
  rw [List.map_congr_left fun f hf => by rw [e f hf]]
theorem wrong_ext {c : Sp.Code} {l : List Nat} {r r' : Nat → List Sp.Bytes} (e : ∀ f ∈ l, r f = r' f) : c.wrong l r = c.wrong l r' := by
  unfold Sp.Code.wrong
  have : (l.filter fun (w : Nat) => (c.told (l.filter fun (f : Nat) => f != w) r).isSome) = l.filter fun (w : Nat) => (c.told (l.filter fun (f : Nat) => f != w) r').isSome :=
    List.filter_congr fun w _ => by rw [told_ext fun f hf => e f (List.mem_filter.mp hf).1]
  rw [this]
theorem alone_flat {n L j : Nat} (hj : j < n) {e : Sp.Bytes} (he : e.length = L) : ((List.range n).map fun x => if x = j then e else Sp.noughts L).flatten = Sp.noughts (j * L) ++ e ++ Sp.noughts ((n - j - 1) * L) := by
  have low : ∀ i, i ≤ j → (((List.range i).map fun x => if x = j then e else Sp.noughts L).flatten) = Sp.noughts (i * L) := by
    intro i
    induction i with
    | zero => intro _; simp [Sp.noughts]
    | succ i ih =>
      intro h
      rw [range_flat, ih (by omega), if_neg (by omega), noughts_app, Nat.add_mul, Nat.one_mul]
  have high : ∀ m, (((List.range (j + 1 + m)).map fun x => if x = j then e else Sp.noughts L).flatten) = Sp.noughts (j * L) ++ e ++ Sp.noughts (m * L) := by
    intro m
    induction m with
    | zero => rw [Nat.add_zero, range_flat, low j (Nat.le_refl _), if_pos rfl]; simp [Sp.noughts]
    | succ m ih =>
      rw [show j + 1 + (m + 1) = (j + 1 + m) + 1 by omega, range_flat, ih, if_neg (by omega), List.append_assoc, noughts_app, Nat.add_mul, Nat.one_mul]
  have := high (n - j - 1)
  rwa [show j + 1 + (n - j - 1) = n by omega] at this
theorem getD_set {α : Type} {l : List α} {i j : Nat} {a z : α} (hi : i < l.length) : (l.set i a).getD j z = if j = i then a else l.getD j z := by
  rw [List.getD_eq_getElem?_getD, List.getElem?_set]
  by_cases h : i = j
  · subst h
    rw [if_pos rfl, if_pos hi, if_pos rfl]
    rfl
  · rw [if_neg h, if_neg fun e => h e.symm, List.getD_eq_getElem?_getD]
theorem spoil_flat {n L j : Nat} (hj : j < n) {e : Sp.Bytes} (he : e.length = L) {r : List Sp.Bytes} (hr : Shape n L r) :
    Sp.xor r.flatten (Sp.noughts (j * L) ++ e ++ Sp.noughts ((n - j - 1) * L)) = (r.set j (Sp.xor (r.getD j []) e)).flatten ∧ Shape n L (r.set j (Sp.xor (r.getD j []) e)) := by
  have hjl : (r.getD j []).length = L := Tld.getD_len hr hj
  have hS : Shape n L ((List.range n).map fun x => if x = j then e else Sp.noughts L) := by
    refine ⟨by simp, fun b hb => ?_⟩
    obtain ⟨x, hx, rfl⟩ := List.mem_map.mp hb
    split
    · exact he
    · exact Rw.noughts_len _
  refine ⟨?_, by rw [List.length_set]; exact hr.1, fun b hb => ?_⟩
  · rw [← alone_flat hj he, Rw.flat_xor (by rw [hr.1, hS.1]) hr.2 hS.2]
    congr 1
    refine List.ext_getElem (by rw [List.length_zipWith, hr.1, hS.1, List.length_set, hr.1, Nat.min_self]) fun i h1 h2 => ?_
    rw [List.length_set, hr.1] at h2
    rw [List.getElem_zipWith, List.getElem_map, List.getElem_range, List.getElem_set]
    by_cases h : j = i
    · subst h
      rw [if_pos rfl, if_pos rfl, List.getD_eq_getElem?_getD, List.getElem?_eq_getElem (by rw [hr.1]; exact hj)]
      rfl
    · rw [if_neg h, if_neg fun z => h z.symm]
      exact Tld.xor_noughts (hr.2 _ (List.getElem_mem _))
  · rcases List.mem_or_eq_of_mem_set hb with h | h
    · exact hr.2 b h
    · rw [h, Rw.xor_len, hjl, he, Nat.min_self]
def Soft (o : HO) : Prop := ∃ v r, o = .lst (v :: r) ∧ ∀ n, v ≠ V.int n
def Keep (H H' : Hp) : Prop := ∀ b o, H b = some o → ¬ Soft o → H' b = some o
theorem Same.keep {H H' : Hp} (s : Same H H') : Keep H H' := fun b o e _ => s b o e
theorem Keep.trans {H H' H'' : Hp} (a : Keep H H') (b : Keep H' H'') : Keep H H'' := fun c o e n => b c o (a c o e n) n
theorem keep_hid {H H' : Hp} {m : Addr} {o : HO} (h : H m = some o) (hs : Soft o) (s : Same (hid m H) (hid m H')) : Keep H H' := fun b u e n => by
  have nb : b ≠ m := fun q => by
    rw [q, h] at e
    cases e
    exact n hs
  exact hid_same _ _ _ _ (s b u (hid_at e nb))
theorem hard_ints (l : List Int) : ¬ Soft (.lst (ivs l)) := by
  rintro ⟨v, r, e, n⟩
  cases l with
  | nil => cases e
  | cons z l => cases e; exact n _ rfl
theorem hard_bytes (b : Sp.Bytes) : ¬ Soft (.lst (bvs b)) := by rw [← ivs_bytes]; exact hard_ints _
theorem hard_nats (l : List Nat) : ¬ Soft (.lst (nvs l)) := by rw [← ivs_nats]; exact hard_ints _
theorem hard_ins {C dx : Addr} {fs : List (Str × V)} : ¬ Soft (.ins C dx fs) := by rintro ⟨v, r, e, n⟩; cases e
theorem Keep.code {C : Addr} {H H' : Hp} {v : V} {c : Sp.Code} (k : Keep H H') (h : IsCode C H v c) : IsCode C H' v c := let ⟨a, dx, e, h⟩ := h; ⟨a, dx, e, k _ _ h hard_ins⟩
theorem Keep.seq {K : PySem.W.Frag} {H H' : Hp} {a : Addr} {l : List Int} (k : Keep H H') (h : SqL K H a (ivs l)) : SqL K H' a (ivs l) := by
  rcases h with (h | ⟨o, h⟩) | h
  · exact .inl (.inl (k _ _ h (hard_ints _)))
  · exact .inl (.inr ⟨o, k _ _ h (by rintro ⟨v, r, e, n⟩; cases e)⟩)
  · exact .inr h
structure Cl (K : PySem.W.Frag) (CL : Addr) : Prop where
  cl : Cls K CL
  nc : NoAttr K CL "code"
  nh : NoAttr K CL "held"
def cluF (cv hv : V) : List (Str × V) := putF "held" hv (putF "code" cv [])
theorem cluF_code (cv hv : V) : (cluF cv hv).lookup ("code" : Str) = some cv := by unfold cluF; simp only [lookup_putF]; rfl
theorem cluF_held (cv hv : V) : (cluF cv hv).lookup ("held" : Str) = some hv := by unfold cluF; simp only [lookup_putF]; rfl
def NodeAt (Bd : Addr → Prop) (H : Hp) (c : Sp.Code) (v : Option V) : Option (List Sp.Bytes) → Prop
  | none => v = some .non
  | some r => Shape c.d c.len r ∧ ∃ a, v = some (.ref a) ∧ H a = some (.lst (bvs r.flatten)) ∧ ¬ Bd a
structure NodesAt (Bd : Addr → Prop) (H : Hp) (c : Sp.Code) (hv : List V) (nodes : List (Option (List Sp.Bytes))) : Prop where
  hl : hv.length = c.n
  nl : nodes.length = c.n
  at_ : ∀ i, i < c.n → NodeAt Bd H c hv[i]? (nodes.getD i none)
structure Clu (Bd : Addr → Prop) (C CL : Addr) (H : Hp) (p : Addr) (x : Sp.Cluster) (cv : V) (ha : Addr) (hv : List V) : Prop where
  ins : ∃ dx, H p = some (.ins CL dx (cluF cv (.ref ha)))
  code : IsCode C H cv x.code
  ok : Ok x.code
  held : H ha = some (.lst hv)
  nodes : NodesAt Bd H x.code hv x.nodes
  bd : ∀ b, Bd b → ∃ o, H b = some o ∧ ¬ Soft o
theorem NodeAt.keep {H H' : Hp} {c : Sp.Code} {v : Option V} {n : Option (List Sp.Bytes)} (k : Keep H H') (h : NodeAt Bd H c v n) : NodeAt Bd H' c v n := by
  cases n with
  | none => exact h
  | some r => obtain ⟨h1, a, e, h2, hb⟩ := h; exact ⟨h1, a, e, k _ _ h2 (hard_bytes _), hb⟩
theorem NodesAt.keep {H H' : Hp} {c : Sp.Code} {hv : List V} {nodes : List (Option (List Sp.Bytes))} (k : Keep H H') (h : NodesAt Bd H c hv nodes) : NodesAt Bd H' c hv nodes := ⟨h.hl, h.nl, fun i hi => (h.at_ i hi).keep k⟩
theorem NodesAt.soft {H : Hp} {c : Sp.Code} {hv : List V} {nodes : List (Option (List Sp.Bytes))} (h : NodesAt Bd H c hv nodes) (o : Ok c) : Soft (.lst hv) := by
  have h0 : 0 < c.n := by have := o.dn; omega
  have := h.at_ 0 h0
  have hl := h.hl
  cases hv with
  | nil => simp at hl; omega
  | cons v r =>
    refine ⟨v, r, rfl, fun n e => ?_⟩
    subst e
    cases q : nodes.getD 0 none with
    | none => rw [q] at this; cases this
    | some y => rw [q] at this; obtain ⟨_, a, e, _⟩ := this; cases e
theorem Clu.keep {C CL : Addr} {H H' : Hp} {p : Addr} {x : Sp.Cluster} {cv : V} {ha : Addr} {hv : List V} (k : Keep H H') (h : Clu Bd C CL H p x cv ha hv) (hh : H' ha = some (.lst hv)) : Clu Bd C CL H' p x cv ha hv :=
  ⟨let ⟨dx, e⟩ := h.ins; ⟨dx, k _ _ e hard_ins⟩, k.code h.code, h.ok, hh, h.nodes.keep k, fun b hb => let ⟨o, e, n⟩ := h.bd b hb; ⟨o, k _ _ e n, n⟩⟩
theorem Clu.mono {C CL : Addr} {H H' : Hp} {p : Addr} {x : Sp.Cluster} {cv : V} {ha : Addr} {hv : List V} (s : Same H H') (h : Clu Bd C CL H p x cv ha hv) : Clu Bd C CL H' p x cv ha hv := h.keep (Same.keep s) (s _ _ h.held)
theorem Clu.has {C CL : Addr} {H : Hp} {p : Addr} {x : Sp.Cluster} {cv : V} {ha : Addr} {hv : List V} (h : Clu Bd C CL H p x cv ha hv) {i : Nat} (hi : i < x.code.n) :
    (x.has i = true ∧ Shape x.code.d x.code.len (x.rows i) ∧ ∃ a, hv[i]? = some (.ref a) ∧ H a = some (.lst (bvs (x.rows i).flatten))) ∨ (x.has i = false ∧ hv[i]? = some .non) := by
  have := h.nodes.at_ i hi
  unfold Sp.Cluster.has Sp.Cluster.rows Sp.Cluster.at_
  cases q : x.nodes.getD i none with
  | none => rw [q] at this; exact .inr ⟨rfl, this⟩
  | some r => rw [q] at this; obtain ⟨h1, a, e, h2, _⟩ := this; exact .inl ⟨rfl, h1, a, e, h2⟩
theorem Clu.fresh {C CL : Addr} {H H1 : Hp} {p : Addr} {x : Sp.Cluster} {cv : V} {ha : Addr} {hv : List V} (h : Clu Bd C CL H p x cv ha hv) (k : Keep H H1) {a : Addr} (n : H1 a = none) : ¬ Bd a := fun hb => by
  obtain ⟨o, e, hs⟩ := h.bd a hb
  rw [k _ _ e hs] at n
  cases n
theorem Clu.item {C CL : Addr} {H : Hp} {p : Addr} {x : Sp.Cluster} {cv : V} {ha : Addr} {hv : List V} (h : Clu Bd C CL H p x cv ha hv) {i : Nat} (hi : i < x.code.n) : ∃ v, hv[i]? = some v ∧ decide (v = V.non) = !x.has i := by
  rcases h.has hi with ⟨h1, _, a, h2, _⟩ | ⟨h1, h2⟩
  · exact ⟨_, h2, by rw [h1]; rfl⟩
  · exact ⟨_, h2, by rw [h1]; rfl⟩
def RM (Bd : Addr → Prop) (C : Addr) (H : Hp) (Q : VK) (ha : Addr) (c : Sp.Code) (a : Sp.Answer) (nodes : List (Option (List Sp.Bytes))) : Prop :=
  ∀ (H' : Hp) (l : Addr) (hv : List V), Same (hid ha H) (hid ha H') → H l = none → H' l = some (.lst (ivs (ansI a))) → H' ha = some (.lst hv) → NodesAt Bd H' c hv nodes → (ansI a).length ≤ 4000 → Q (.ref l) H'
theorem RM.same {C CL : Addr} {H : Hp} {Q : VK} {p : Addr} {x : Sp.Cluster} {cv : V} {ha : Addr} {hv : List V} {a : Sp.Answer} (h : RM Bd C H Q ha x.code a x.nodes) (k : Clu Bd C CL H p x cv ha hv)   : RA H Q a := fun H' l s n e b =>
  h H' l hv (hid_mono s) n e (s _ _ k.held) (k.nodes.keep (Same.keep s)) b
theorem NodesAt.set {H : Hp} {c : Sp.Code} {hv : List V} {nodes : List (Option (List Sp.Bytes))} (h : NodesAt Bd H c hv nodes) {i : Nat} (hi : i < c.n) {v : V} {n : Option (List Sp.Bytes)} (hn : NodeAt Bd H c (some v) n) : NodesAt Bd H c (hv.set i v) (nodes.set i n) := by
  have hl := h.hl
  have nl := h.nl
  refine ⟨by rw [List.length_set]; exact h.hl, by rw [List.length_set]; exact h.nl, fun j hj => ?_⟩
  rw [getD_set (by omega), List.getElem?_set]
  by_cases hji : j = i
  · subst hji
    rw [if_pos rfl, if_pos rfl, if_pos (by omega)]
    exact hn
  · rw [if_neg (fun z => hji z.symm), if_neg hji]
    exact h.at_ j hj
theorem RM.set {C CL : Addr} {H : Hp} {Q : VK} {p : Addr} {x : Sp.Cluster} {cv : V} {ha : Addr} {hv : List V} {i : Nat} {n : Option (List Sp.Bytes)} {z : Int} (h : RM Bd C H Q ha x.code (Sp.says z) (x.nodes.set i n)) (k : Clu Bd C CL H p x cv ha hv) (hi : i < x.code.n) {H1 : Hp} (s : Same H H1) {v : V}
    (hn : NodeAt Bd H1 x.code (some v) n) {l : Addr} (hl : upd H1 ha (.lst (hv.set i v)) l = none) : Q (.ref l) (upd (upd H1 ha (.lst (hv.set i v))) l (.lst [V.int z])) := by
  have hsoft := k.nodes.soft k.ok
  have n1 : NodesAt Bd H1 x.code hv x.nodes := k.nodes.keep (Same.keep s)
  have n2 := n1.set hi hn
  have hne : l ≠ ha := fun e => by rw [e, upd_same] at hl; cases hl
  have hl1 : H1 l = none := by rw [upd_ne hne] at hl; exact hl
  have k1 : Keep H1 (upd (upd H1 ha (.lst (hv.set i v))) l (.lst [V.int z])) := by
    refine keep_hid (s _ _ k.held) hsoft ?_
    rw [show hid ha (upd (upd H1 ha (.lst (hv.set i v))) l (.lst [V.int z])) = upd (hid ha H1) l (.lst [V.int z]) from ?_]
    · refine Same.new ?_
      unfold hid
      rw [if_neg hne]
      exact hl1
    · funext b
      unfold hid upd
      by_cases e1 : b = ha
      · subst e1
        simp [hne.symm]
      · by_cases e2 : b = l
        · subst e2; simp [e1]
        · simp [e1, e2]
  refine h _ l (hv.set i v) ?_ (s.free hl1) (by rw [upd_same, ans_says]; rfl) (by rw [upd_ne hne.symm, upd_same]) (n2.keep k1) (by rw [ans_says]; show 1 ≤ 4000; decide)
  intro b o e
  have e2 := hid_mono s b o e
  have hb : b ≠ ha := fun z => by subst z; unfold hid at e; rw [if_pos rfl] at e; cases e
  have e3 := hid_same _ _ _ _ e2
  refine hid_at ?_ hb
  rw [upd_ne (ne_of_none e3 hl1), upd_ne hb]
  exact e3
end Sn
end
section
set_option maxHeartbeats 4000000
namespace Sn
open PySem PySem.Spec PyProof.Rows L2
open Rw (vAt throughR)
open Tld (Ok likely toldM againM ok_iff)
open Gau (Shape)
variable {Bd : Addr → Prop}
section
variable {P : Program} {w : World} {K : PySem.W.Frag} {mg : Str → Option Value} {base : Heap} {C CL : Addr}
theorem sc_nodes_left : FnScope ["cluster", "node"] ["cluster"] (defScope (top 53)) := ⟨rfl, rfl, rfl, by decide +kernel, rfl, by decide +kernel, by decide +kernel⟩
def sp_nodes_left (C CL : Addr) : L2.Sp := fun vs H Q _ => ∃ (Bd : Addr → Prop) (p : Addr) (x : Sp.Cluster) (cv : V) (ha : Addr) (hv : List V), vs = [.ref p] ∧ Clu Bd C CL H p x cv ha hv ∧ RN H Q x.living
theorem ok_nodes_left {f : Addr} {fd : FuncData} (F : Fun K "nodes_left" "nodes_left" (top 53) f fd) (B : Bi mg) (T : Cc K C) (L : Cl K CL) : FnOk P w K mg base CX0 1 f fd ["cluster"] (sp_nodes_left C CL) := by
  refine F.ok sc_nodes_left (fun vs H Q E h => ?_) (fun cdv A outer s H vs Q E hr h => ?_)
  · obtain ⟨Bd, p, x, cv, ha, hv, rfl, _⟩ := h
    rfl
  · obtain ⟨Bd, p, x, cv, ha, hv, rfl, hc, k⟩ := h
    obtain ⟨dx, hp⟩ := hc.ins
    obtain ⟨q, qx, rfl, hq⟩ := hc.code
    have n9 := hc.ok.n9
    refine ⟨_, (pss_one (ps_ret (pe_lc (g := (gName 1)) (tt := (tTest (tOp rNotN0 (tOp (rIxL K) (tFld K (tVar 0) "held") (tVar 1)) (tC .non)))) (te := (tVar 1)) (own := [("node", 1)]) rfl sc_nodes_left.nd (pi_range1 rfl B.range (pa_cons (pe_fld (pe_fld (pv 0) rfl) rfl) pa_nil)) (blkOk_by (by rfl)) (fun s H C cl fp => (pg_name (i := 1) sc_nodes_left.nd rfl (Or.inl rfl) (Or.inr rfl))) (fun s H C cl fp => (pts_one (pt_cmpR op_notN (pe_ix ix_list (pe_fld (pv 0) rfl) (pv 1) (fun _ _ => rfl)) pe_non (nomark _)))) (fun s H C cl fp => (pv 1))))), ?_⟩
    refine ⟨_, rfl, p, CL, dx, _, _, rfl, hp, L.cl, L.nc, cluF_code _ _, q, C, qx, _, _, rfl, hq, T.cl, T.nn, codeF_n _, _, rfl, by omega, by omega, fun D hD => ?_⟩
    refine lc_range (n := x.code.n) (fun j H1 => Same H H1 ∧ H1 D = some (.lst (nvs ((List.range j).filter x.has)))) ⟨.new hD, upd_same⟩ (fun j H1 hj z => ?_) (fun H1 z => ?_)
    · obtain ⟨v, hv1, hv2⟩ := hc.item hj
      refine ⟨rfl, _, rfl, p, CL, dx, _, _, rfl, z.1 _ _ hp, L.cl, L.nh, cluF_held _ _, _, rfl, ha, hv, _, v, rfl, rfl, SqL.of (z.1 _ _ hc.held), at_of (by omega) hv1, rfl, _, rfl, ?_⟩
      rw [hv2, Bool.not_not]
      refine ite2 (fun h => ?_) (fun h => ?_)
      · refine ⟨_, rfl, _, z.2, ?_, z.1.upd hD, ?_⟩
        · rw [nvs_len]
          have := List.length_filter_le x.has (List.range j)
          rw [List.length_range] at this
          show _ < 2 ^ 24
          omega
        · rw [upd_same, filter_range_succ, if_pos h, ← nvs_snoc, show (0 + (j : Int)) = (j : Int) by omega]
          rfl
      · refine ⟨z.1, ?_⟩
        rw [z.2, filter_range_succ, if_neg h, List.append_nil]
    · exact k H1 D z.1 hD z.2
theorem any_range (l : List Nat) (p : Nat → Bool) : ((List.range l.length).map fun j => p (l.getD j 0)).any id = l.any p := by
  rw [List.any_map]
  conv => rhs; rw [Rw.list_range 0 l]
  rw [List.any_map]
  rfl
theorem sc_has_lost : FnScope ["cluster", "nodes", "node"] ["cluster", "nodes"] (defScope (top 54)) := ⟨rfl, rfl, rfl, by decide +kernel, rfl, by decide +kernel, by decide +kernel⟩
def sp_has_lost (C CL : Addr) : L2.Sp := fun vs H Q _ => ∃ (Bd : Addr → Prop) (p : Addr) (x : Sp.Cluster) (cv : V) (ha : Addr) (hv : List V) (y : V) (l : List Nat), vs = [.ref p, y] ∧ Clu Bd C CL H p x cv ha hv ∧ IsN H y l ∧ l.length ≤ 65536 ∧ (∀ f ∈ l, f < x.code.n) ∧ ∀ H', Same H H' → Q (.bl (l.any fun h => !x.has h)) H'
theorem ok_has_lost {f : Addr} {fd : FuncData} (F : Fun K "has_lost" "has_lost" (top 54) f fd) (B : Bi mg) (L : Cl K CL) : FnOk P w K mg base CX0 1 f fd ["cluster", "nodes"] (sp_has_lost C CL) := by
  refine F.ok sc_has_lost (fun vs H Q E h => ?_) (fun cdv A outer s H vs Q E hr h => ?_)
  · obtain ⟨Bd, p, x, cv, ha, hv, y, l, rfl, _⟩ := h
    rfl
  · obtain ⟨Bd, p, x, cv, ha, hv, y, l, rfl, hc, ⟨q, rfl, hq⟩, hl, hn, k⟩ := h
    obtain ⟨dx, hp⟩ := hc.ins
    refine ⟨_, (pss_one (ps_ret (pe_callB (cr_any rfl) rfl B.any boot_any (pa_cons (pe_lc (g := (gName 2)) (te := (tOp rIsN0 (tOp (rIxL K) (tFld K (tVar 0) "held") (tVar 2)) (tC .non))) (own := [("node", 2)]) rfl sc_has_lost.nd (pi_list (pv 1)) (blkOk_by (by rfl)) (fun s H C cl fp => (pg_name (i := 2) sc_has_lost.nd rfl (Or.inl rfl) (Or.inr rfl))) (fun s H C cl fp => pts_nil) (fun s H C cl fp => (pe_cmpR op_isN (pe_ix ix_list (pe_fld (pv 0) rfl) (pv 2) (fun _ _ => rfl)) pe_non (nomark _)))) pa_nil)))), ?_⟩
    refine ⟨_, rfl, q, rfl, ⟨_, SqL.of hq⟩, fun D hD => ?_⟩
    refine lc_list (xs := nvs l) (Acc H D fun j y G => y = .bl (!x.has (l.getD j 0))) (Acc.start hD) (fun i H1 _ z => SqL.of (z.same _ _ hq)) (fun i y H1 e1 z => ?_) (fun H1 z => ?_)
    · obtain ⟨h1, rfl⟩ := nvs_get e1
      obtain ⟨v, hv1, hv2⟩ := hc.item (hn _ (Tld.getD_mem h1))
      refine ⟨rfl, _, rfl, p, CL, dx, _, _, rfl, z.same _ _ hp, L.cl, L.nh, cluF_held _ _, _, rfl, ha, hv, _, v, rfl, rfl, SqL.of (z.same _ _ hc.held), at_of rfl hv1, rfl, ?_⟩
      exact Acc.push (fun _ _ _ _ _ h => h) hD z (.refl _) (congrArg V.bl hv2) (by omega)
    · obtain ⟨ys, g1, g2, g3⟩ := z.ex
      have e2 := vals_of g2 g3
      rw [nvs_len] at e2
      refine ⟨D, (List.range l.length).map fun j => !x.has (l.getD j 0), rfl, SqL.of (by rw [g1, e2, List.map_map]; rfl), ?_⟩
      refine qv (Q := Q) (congrArg V.bl ?_) (k H1 z.same)
      exact any_range l fun h => !x.has h
theorem map_flat_snoc (F : Nat → Sp.Bytes) (l : List Nat) {i : Nat} (hi : i < l.length) : ((l.take (i + 1)).map F).flatten = ((l.take i).map F).flatten ++ F (l.getD i 0) := by
  rw [List.take_add_one, List.getElem?_eq_getElem hi, List.map_append, List.flatten_append, List.getD_eq_getElem?_getD, List.getElem?_eq_getElem hi]
  simp
theorem map_flat_len {F : Nat → Sp.Bytes} {L : Nat} : ∀ {l : List Nat}, (∀ f ∈ l, (F f).length = L) → ((l.map F).flatten).length = l.length * L
  | [], _ => by simp
  | a :: l, h => by
    rw [List.map_cons, List.flatten_cons, List.length_append, map_flat_len fun f hf => h f (List.mem_cons_of_mem _ hf), h a (by simp), List.length_cons, Nat.add_mul, Nat.one_mul, Nat.add_comm]
theorem sc_rows_of_nodes : FnScope ["cluster", "nodes", "rows", "node"] ["cluster", "nodes"] (defScope (top 55)) := ⟨rfl, rfl, rfl, by decide +kernel, rfl, by decide +kernel, by decide +kernel⟩
def sp_rows_of_nodes (C CL : Addr) : L2.Sp := fun vs H Q _ => ∃ (Bd : Addr → Prop) (p : Addr) (x : Sp.Cluster) (cv : V) (ha : Addr) (hv : List V) (y : V) (l : List Nat), vs = [.ref p, y] ∧ Clu Bd C CL H p x cv ha hv ∧ IsN H y l ∧ l.length ≤ 32768 ∧ (∀ f ∈ l, f < x.code.n ∧ x.has f = true) ∧ RB H Q (l.map fun f => (x.rows f).flatten).flatten
theorem ok_rows_of_nodes {f : Addr} {fd : FuncData} (F : Fun K "rows_of_nodes" "rows_of_nodes" (top 55) f fd) (B : Bi mg) (L : Cl K CL) : FnOk P w K mg base CX0 1 f fd ["cluster", "nodes"] (sp_rows_of_nodes C CL) := by
  refine F.ok sc_rows_of_nodes (fun vs H Q E h => ?_) (fun cdv A outer s H vs Q E hr h => ?_)
  · obtain ⟨Bd, p, x, cv, ha, hv, y, l, rfl, _⟩ := h
    rfl
  · obtain ⟨Bd, p, x, cv, ha, hv, y, l, rfl, hc, ⟨q, rfl, hq⟩, hl, hn, k⟩ := h
    obtain ⟨dx, hp⟩ := hc.ins
    have hdl := d_len_le hc.ok
    have hrow : ∀ f ∈ l, (x.rows f).flatten.length = x.code.d * x.code.len ∧ ∃ a, hv[f]? = some (.ref a) ∧ H a = some (.lst (bvs (x.rows f).flatten)) := fun f hf => by
      rcases hc.has (hn f hf).1 with ⟨_, h2, a, h3, h4⟩ | ⟨h1, _⟩
      · exact ⟨by rw [Rw.flat_len h2.2, h2.1], a, h3, h4⟩
      · rw [(hn f hf).2] at h1; cases h1
    refine ⟨_, (pss_cons (ps_set (i := 2) sc_rows_of_nodes.nd rfl (Or.inl rfl) (pe_lst pa_nil))
      (pss_cons (ps_for PassesOwn.never rfl (pi_list (pv 1)) (pg_name (i := 3) sc_rows_of_nodes.nd rfl (Or.inl rfl)) (pss_one (ps_expr (pe_bm PySem.F.plainAttrs_list PySem.F.slot_list_extend PySem.F.type_list_extend mt_extend (pv 2) (pa_cons (pe_ix ix_list (pe_fld (pv 0) rfl) (pv 3) (fun _ _ => rfl)) pa_nil)))))
      (pss_one (ps_ret (pv 2))))), ?_⟩
    refine ⟨z0L, fun ra hra => ?_⟩
    have s1 : Same H (upd H ra (.lst [])) := .new hra
    refine ⟨_, rfl, q, rfl, ⟨_, SqL.of (s1 _ _ hq)⟩, ?_⟩
    refine for_list (xs := nvs l) (fun i σ H1 => ∃ r3, σ = [some (V.ref p), some (V.ref q), some (V.ref ra), r3] ∧ Same H H1 ∧ H1 ra = some (.lst (bvs ((l.take i).map fun f => (x.rows f).flatten).flatten))) ?_ ?_ ?_ ?_
    · exact ⟨_, rfl, s1, upd_same⟩
    · rintro i σ H1 _ ⟨r3, rfl, s2, _⟩
      exact SqL.of (s2 _ _ hq)
    · rintro i y σ H1 e1 ⟨r3, rfl, s2, hra1⟩
      obtain ⟨h1, rfl⟩ := nvs_get e1
      have hm := Tld.getD_mem h1
      obtain ⟨hlen, a, h3, h4⟩ := hrow _ hm
      have hfl := map_flat_len (F := fun f => (x.rows f).flatten) (L := x.code.d * x.code.len) (l := l.take i) fun f hf => (hrow f (List.mem_of_mem_take hf)).1
      have hti : (l.take i).length ≤ 32768 := by rw [List.length_take]; omega
      have hmul : (l.take i).length * (x.code.d * x.code.len) ≤ 32768 * 384 := Nat.mul_le_mul hti hdl
      refine ⟨_, rfl, .inl ⟨rfl, _, SqL.of hra1⟩, _, rfl, p, CL, dx, _, _, rfl, s2 _ _ hp, L.cl, L.nh, cluF_held _ _, _, rfl, ha, hv, _, _, rfl, rfl, SqL.of (s2 _ _ hc.held), at_of rfl h3, ra, a, _, _, rfl, rfl, hra1, s2 _ _ h4, ?_, ?_⟩
      · rw [bvs_len, bvs_len, hfl, hlen]
        show _ ≤ 2 ^ 24
        omega
      · refine ⟨_, rfl, s2.upd hra, ?_⟩
        rw [upd_same, bvs_app, map_flat_snoc _ _ h1]
    · rintro σ H1 ⟨r3, rfl, s2, hra1⟩
      rw [nvs_len, List.take_length] at hra1
      exact ⟨_, rfl, k H1 ra s2 hra hra1⟩
theorem sc_state : FnScope ["cluster", "code"] ["cluster"] (defScope (top 57)) := ⟨rfl, rfl, rfl, by decide +kernel, rfl, by decide +kernel, by decide +kernel⟩
def sp_state (C CL : Addr) : L2.Sp := fun vs H Q _ => ∃ (Bd : Addr → Prop) (p : Addr) (x : Sp.Cluster) (cv : V) (ha : Addr) (hv : List V), vs = [.ref p] ∧ Clu Bd C CL H p x cv ha hv ∧ RA H Q (Sp.tells 0 ([x.code.k, x.code.d, x.code.n, x.code.len] ++ x.living))
theorem ok_state {f : Addr} {fd : FuncData} (F : Fun K "state" "state" (top 57) f fd) (T : Cc K C) (L : Cl K CL) (g_nodes_left : Gd P w K mg base 1 "nodes_left" ["cluster"] (sp_nodes_left C CL)) : FnOk P w K mg base CX0 2 f fd ["cluster"] (sp_state C CL) := by
  refine F.ok sc_state (fun vs H Q E h => ?_) (fun cdv A outer s H vs Q E hr h => ?_)
  · obtain ⟨Bd, p, x, cv, ha, hv, rfl, _⟩ := h
    rfl
  · obtain ⟨Bd, p, x, cv, ha, hv, rfl, hc, k⟩ := h
    obtain ⟨dx, hp⟩ := hc.ins
    obtain ⟨q, qx, rfl, hq⟩ := hc.code
    have n9 := hc.ok.n9
    refine ⟨_, (pss_cons (ps_set (i := 1) sc_state.nd rfl (Or.inl rfl) (pe_fld (pv 0) rfl))
      (pss_one (ps_ret (pe_op op_cat (pe_lst (pa_cons pe_int (pa_cons (pe_fld (pv 1) rfl) (pa_cons (pe_fld (pv 1) rfl) (pa_cons (pe_fld (pv 1) rfl) (pa_cons (pe_fld (pv 1) rfl) pa_nil)))))) (pe_g g_nodes_left (hr.mono (by decide)) rfl (pa_cons (pv 0) pa_nil)))))), ?_⟩
    refine ⟨_, rfl, p, CL, dx, _, _, rfl, hp, L.cl, L.nc, cluF_code _ _, ?_⟩
    refine ⟨_, rfl, q, C, qx, _, _, rfl, hq, T.cl, T.nk, codeF_k _, _, rfl, q, C, qx, _, _, rfl, hq, T.cl, T.nd, codeF_d _, _, rfl, q, C, qx, _, _, rfl, hq, T.cl, T.nn, codeF_n _, _, rfl, q, C, qx, _, _, rfl, hq, T.cl, T.nw, codeF_w _, by show 5 ≤ 2 ^ 24; decide, fun l1 hl1 => ?_⟩
    have s1 := (Same.new (o := .lst [V.int 0, nv x.code.k, nv x.code.d, nv x.code.n, nv x.code.len]) hl1)
    refine ⟨_, rfl, Bd, p, x, _, ha, hv, rfl, hc.mono s1, fun H2 a2 s2 n2 e2 => ?_⟩
    have hle : x.living.length ≤ 9 := by
      unfold Sp.Cluster.living
      have := List.length_filter_le x.has (List.range x.code.n)
      rw [List.length_range] at this
      omega
    refine ⟨l1, a2, _, _, rfl, rfl, s2 _ _ upd_same, e2, by rw [nvs_len]; show 5 + _ ≤ 2 ^ 24; omega, fun l3 hl3 => ?_⟩
    have := RA.tells k (by rw [List.length_append]; show 4 + _ < 4000; omega) (s1.trans s2) hl3
    unfold nvs at this ⊢
    rw [List.map_append] at this
    exact this
theorem any_one {x : Sp.Cluster} {n : Nat} : ([n].any fun h => !x.has h) = !x.has n := by simp
theorem looked_one_iff {c : Sp.Code} (o : Ok c) (n : Nat) : Sp.looked c [n] = decide (n < c.n) := by
  unfold Sp.looked
  rw [(ok_iff c).mpr o]
  simp
theorem sc_node_rows : FnScope ["cluster", "node"] ["cluster", "node"] (defScope (top 58)) := ⟨rfl, rfl, rfl, by decide +kernel, rfl, by decide +kernel, by decide +kernel⟩
def sp_node_rows (C CL : Addr) : L2.Sp := fun vs H Q _ => ∃ (Bd : Addr → Prop) (p : Addr) (x : Sp.Cluster) (cv : V) (ha : Addr) (hv : List V) (n : Nat), vs = [.ref p, nv n] ∧ Clu Bd C CL H p x cv ha hv ∧ RA H Q (if x.code.n ≤ n then Sp.says (-1) else match x.at_ n with
    | none => Sp.says (-4)
    | some r => Sp.gives 0 r.flatten)
theorem ok_node_rows {f : Addr} {fd : FuncData} (F : Fun K "node_rows" "node_rows" (top 58) f fd) (cn : Cn mg) (L : Cl K CL) (g_is_missing : Gd P w K mg base 2 "is_missing" ["code", "nodes"] (sp_is_missing C)) (g_has_lost : Gd P w K mg base 1 "has_lost" ["cluster", "nodes"] (sp_has_lost C CL)) :
    FnOk P w K mg base CX0 3 f fd ["cluster", "node"] (sp_node_rows C CL) := by
  refine F.ok sc_node_rows (fun vs H Q E h => ?_) (fun cdv A outer s H vs Q E hr h => ?_)
  · obtain ⟨Bd, p, x, cv, ha, hv, n, rfl, _⟩ := h
    rfl
  · obtain ⟨Bd, p, x, cv, ha, hv, n, rfl, hc, k⟩ := h
    have c_NO_SUCH := cn.noSuch
    have c_NOT_LET := cn.notLet
    obtain ⟨dx, hp⟩ := hc.ins
    refine ⟨_, (pss_cons (ps_if (pt_truth (pe_g g_is_missing (hr.mono (by decide)) rfl (pa_cons (pe_fld (pv 0) rfl) (pa_cons (pe_lst (pa_cons (pv 1) pa_nil)) pa_nil))) (fun _ => rfl)) (pss_one (ps_ret (pe_lst (pa_cons (pe_ci c_NO_SUCH rfl) pa_nil)))) pss_nil)
      (pss_cons (ps_if (pt_truth (pe_g g_has_lost (hr.mono (by decide)) rfl (pa_cons (pv 0) (pa_cons (pe_lst (pa_cons (pv 1) pa_nil)) pa_nil))) (fun _ => rfl)) (pss_one (ps_ret (pe_lst (pa_cons (pe_ci c_NOT_LET rfl) pa_nil)))) pss_nil)
      (pss_one (ps_ret (pe_op op_cat (pe_lst (pa_cons pe_int pa_nil)) (pe_ix ix_list (pe_fld (pv 0) rfl) (pv 1) (fun _ _ => rfl))))))), ?_⟩
    refine ⟨_, rfl, p, CL, dx, _, _, rfl, hp, L.cl, L.nc, cluF_code _ _, _, rfl, z1L, fun l1 hl1 => ?_⟩
    have s1 : Same H (upd H l1 (.lst [nv n])) := .new hl1
    refine ⟨_, _, x.code, [n], rfl, hc.code.mono s1, ⟨l1, rfl, upd_same⟩, by show 1 ≤ 65536; decide, fun H1 s2 => ?_⟩
    have s12 := s1.trans s2
    rw [looked_one_iff hc.ok]
    refine ⟨_, rfl, ite2 (fun h => ?_) (fun h => ?_)⟩
    · have h := of_decide_eq_false (not_f h)
      rw [if_pos (by omega)] at k
      exact ⟨z1L, fun l hl => k.one s12 hl⟩
    have h := of_decide_eq_true (not_t h)
    rw [if_neg (by omega)] at k
    refine ⟨_, rfl, _, rfl, z1L, fun l2 hl2 => ?_⟩
    have s3 := s12.trans (.new (o := .lst [nv n]) hl2)
    refine ⟨Bd, p, x, cv, ha, hv, _, [n], rfl, hc.mono s3, ⟨l2, rfl, upd_same⟩, by show 1 ≤ 65536; decide, fun f hf => ?_, fun H4 s4 => ?_⟩
    · have : f = n := by simpa using hf
      omega
    have s14 := s3.trans s4
    rw [any_one]
    refine ⟨_, rfl, ite2 (fun h2 => ?_) (fun h2 => ?_)⟩
    · have h2 := not_f h2
      unfold Sp.Cluster.has at h2
      rw [Option.isSome_eq_false_iff, Option.isNone_iff_eq_none] at h2
      rw [h2] at k
      exact ⟨z1L, fun l hl => k.one s14 hl⟩
    have h2 := not_t h2
    rcases hc.has h with ⟨_, hS, a, h3, h4⟩ | ⟨h1, _⟩
    · have e : x.at_ n = some (x.rows n) := by
        unfold Sp.Cluster.rows
        unfold Sp.Cluster.has at h2
        obtain ⟨r, hr⟩ := Option.isSome_iff_exists.mp h2
        rw [hr]
        rfl
      rw [e] at k
      have hfl := Rw.flat_len hS.2
      rw [hS.1] at hfl
      have hdl := d_len_le hc.ok
      refine ⟨z1L, fun l5 hl5 => ?_⟩
      have s5 := s14.trans (.new (o := .lst [V.int 0]) hl5)
      exact ⟨_, rfl, p, CL, dx, _, _, rfl, s5 _ _ hp, L.cl, L.nh, cluF_held _ _, _, rfl, ha, hv, _, _, rfl, rfl, SqL.of (s5 _ _ hc.held), at_of rfl h3, l5, a, _, _, rfl, rfl, upd_same, s5 _ _ h4, by rw [bvs_len, hfl]; show 1 + _ ≤ 2 ^ 24; omega, fun l6 hl6 => k.cat (by omega) (by rw [hfl]; omega) s5 hl6⟩
    · rw [h2] at h1; cases h1
end
end Sn
end
section
set_option maxHeartbeats 2000000
namespace Sn
open PySem PySem.Spec PyProof.Rows L2
open Tld (Ok ok_iff)
open Gau (Shape)
variable {Bd : Addr → Prop}
open Rw (vAt)
theorem ixN_nat {n j : Nat} (h : j < n) : ixN n (j : Int) = some j := by
  unfold ixN
  rw [if_pos (by omega), if_pos (by omega)]
  rfl
theorem RA.mono {H H2 : Hp} {Q : VK} {a : Sp.Answer} (h : RA H Q a) (s : Same H H2) : RA H2 Q a := fun H' p s' n e b => h H' p (s.trans s') (s.free n) e b
theorem hid_free {H H1 : Hp} {ha l : Addr} {o : HO} (s : Same (hid ha H) (hid ha H1)) (hh : H1 ha = some o) (hl : H1 l = none) : H l = none := by
  cases q : H l with
  | none => rfl
  | some u =>
    have hne : l ≠ ha := fun e => by rw [e, hh] at hl; cases hl
    have := hid_same _ _ _ _ (s _ _ (hid_at q hne))
    rw [hl] at this
    cases this
theorem RM.fin {C : Addr} {H : Hp} {Q : VK} {ha : Addr} {c : Sp.Code} {z : Int} {nodes : List (Option (List Sp.Bytes))} (h : RM Bd C H Q ha c (Sp.says z) nodes) {H1 : Hp} (s : Same (hid ha H) (hid ha H1)) {hv : List V} (hh : H1 ha = some (.lst hv)) (hn : NodesAt Bd H1 c hv nodes) {l : Addr} (hl : H1 l = none) :
    Q (.ref l) (upd H1 l (.lst [V.int z])) := by
  have s2 : Same H1 (upd H1 l (.lst [V.int z])) := .new hl
  exact h _ l hv (s.trans (hid_mono s2)) (hid_free s hh hl) (by rw [upd_same, ans_says]; rfl) (s2 _ _ hh) (hn.keep (Same.keep s2)) (by rw [ans_says]; show 1 ≤ 4000; decide)
theorem set_step {H1 : Hp} {ha : Addr} {c : Sp.Code} {hv : List V} {nodes : List (Option (List Sp.Bytes))} (o : Ok c) (hn : NodesAt Bd H1 c hv nodes) (hh : H1 ha = some (.lst hv)) {i : Nat} (hi : i < c.n) {v : V} {nn : Option (List Sp.Bytes)} (hv2 : NodeAt Bd H1 c (some v) nn) :
    Keep H1 (upd H1 ha (.lst (hv.set i v))) ∧ NodesAt Bd (upd H1 ha (.lst (hv.set i v))) c (hv.set i v) (nodes.set i nn) ∧ Same (hid ha H1) (hid ha (upd H1 ha (.lst (hv.set i v)))) := by
  have s : Same (hid ha H1) (hid ha (upd H1 ha (.lst (hv.set i v)))) := by rw [hid_upd]; exact .refl _
  have k := keep_hid hh (hn.soft o) s
  exact ⟨k, (hn.set hi hv2).keep k, s⟩
def loseR (x : Sp.Cluster) (f : Nat) : Sp.Answer × List (Option (List Sp.Bytes)) := if x.code.n ≤ f then (Sp.says (-1), x.nodes) else if x.has f = false then (Sp.says (-4), x.nodes) else (Sp.says 0, x.nodes.set f none)
def spoilR (x : Sp.Cluster) (f j : Nat) (e : Sp.Bytes) : Sp.Answer × List (Option (List Sp.Bytes)) := if x.code.n ≤ f ∨ x.code.d ≤ j then (Sp.says (-1), x.nodes) else if x.has f = false then (Sp.says (-4), x.nodes) else if e.length ≠ x.code.len then (Sp.says (-5), x.nodes) else (Sp.says 0, x.nodes.set f (some ((x.rows f).set j (Sp.xor ((x.rows f).getD j []) e))))
def mendR (x : Sp.Cluster) (f : Nat) (l : List Nat) : Sp.Answer × List (Option (List Sp.Bytes)) := if Sp.looked x.code (f :: l) = false then (Sp.says (-1), x.nodes) else if l.contains f = true ∨ l.any (fun (h : Nat) => !x.has h) = true then (Sp.says (-4), x.nodes) else if Sp.rising l = false ∨ l.length < x.code.d then (Sp.says (-5), x.nodes) else match x.code.again l (fun (h : Nat) => x.code.part (x.rows h) f) with
    | none => (Sp.says (-9), x.nodes)
    | some r => (Sp.says 0, x.nodes.set f (some r))
def editR (x : Sp.Cluster) (i : Nat) (e : Sp.Bytes) : Sp.Answer × List (Option (List Sp.Bytes)) := if x.code.holds ≤ i then (Sp.says (-4), x.nodes) else if e.length ≠ x.code.len then (Sp.says (-5), x.nodes) else (Sp.says 0, x.nodes.zipIdx.map fun (y : Option (List Sp.Bytes) × Nat) => y.1.map fun (r : List Sp.Bytes) => x.code.changed y.2 r i e)
def readA (x : Sp.Cluster) (l : List Nat) : Sp.Answer := if Sp.looked x.code l = false then Sp.says (-1) else if l.any (fun (h : Nat) => !x.has h) = true then Sp.says (-4) else if Sp.rising l = false ∨ l.length < x.code.k then Sp.says (-5) else match x.code.told l x.rows with
    | none => Sp.says (-9)
    | some d => Sp.gives (x.code.holds : Nat) d.flatten
def lookA (x : Sp.Cluster) : Sp.Answer := if x.living.length < x.code.k + 2 then Sp.says (-5) else if (x.code.told x.living x.rows).isSome = true then Sp.says 0 else match x.code.wrong x.living x.rows with
    | none => Sp.says (-9)
    | some w => Sp.tells 1 [w]
theorem any_f {x : Sp.Cluster} {l : List Nat} (h : ¬ (l.any fun h => !x.has h) = true) : ∀ f ∈ l, x.has f = true := fun f hf => by
  cases q : x.has f with
  | true => rfl
  | false => exact absurd (List.any_eq_true.mpr ⟨f, hf, by rw [q]; rfl⟩) h
section
variable {x : Sp.Cluster} {l : List Nat} (hS : ∀ f ∈ l, Shape x.code.d x.code.len (x.rows f))
include hS
theorem rows_flat_len : ((l.map fun f => (x.rows f).flatten).flatten).length = l.length * (x.code.d * x.code.len) :=
  map_flat_len fun f hf => by rw [Rw.flat_len (hS f hf).2, (hS f hf).1]
theorem rows_flat_shape : Shape l.length (x.code.d * x.code.len) (l.map fun f => (x.rows f).flatten) := by
  refine ⟨by simp, fun r hr => ?_⟩
  obtain ⟨f, hf, rfl⟩ := List.mem_map.mp hr
  rw [Rw.flat_len (hS f hf).2, (hS f hf).1]
theorem rowsIn_eq (hn : l.Nodup) : ∀ f ∈ l, Sp.rowsIn x.code l (l.map fun f => (x.rows f).flatten).flatten f = x.rows f := fun f hf => by
  obtain ⟨i, hi, rfl⟩ := List.mem_iff_getElem.mp hf
  have e : l.getD i 0 = l[i] := by rw [List.getD_eq_getElem?_getD, List.getElem?_eq_getElem hi]; rfl
  have := rowsIn_get (c := x.code) (b := (l.map fun f => (x.rows f).flatten).flatten) hn hi
  rw [Rw.rowsOf_flat (rows_flat_shape hS), e] at this
  rw [this]
  rw [List.getD_eq_getElem?_getD, List.getElem?_map, List.getElem?_eq_getElem hi]
  exact Rw.rowsOf_flat (hS _ (List.getElem_mem hi))
theorem tell_rows (hlk : Sp.looked x.code l = true) (hh : ∀ f ∈ l, x.has f = true) : codeA (.tell x.code l (l.map fun f => (x.rows f).flatten).flatten) = readA x l := by
  unfold readA
  show (if Sp.looked x.code l = false then Sp.says (-1) else if Sp.rising l = false ∨ l.length < x.code.k ∨ (l.map fun f => (x.rows f).flatten).flatten.length ≠ l.length * (x.code.d * x.code.len) then Sp.says (-5) else match x.code.told l (Sp.rowsIn x.code l (l.map fun f => (x.rows f).flatten).flatten) with
      | none => Sp.says (-9)
      | some d => Sp.gives (x.code.holds : Nat) d.flatten) = _
  have ha : ¬ (l.any fun h => !x.has h) = true := fun e => by
    obtain ⟨f, hf, e⟩ := List.any_eq_true.mp e
    rw [hh f hf] at e
    cases e
  have hl : ¬ Sp.looked x.code l = false := by rw [hlk]; decide
  rw [if_neg hl, if_neg hl, if_neg ha]
  by_cases h : Sp.rising l = false ∨ l.length < x.code.k
  · rw [if_pos h, if_pos (h.elim .inl fun z => .inr (.inl z))]
  · rw [if_neg h, if_neg (fun z => h (z.elim .inl fun z => z.elim .inr fun z => absurd (rows_flat_len hS) z))]
    have hr : Sp.rising l = true := by cases q : Sp.rising l with
      | true => rfl
      | false => exact absurd (.inl q) h
    rw [told_ext (rowsIn_eq hS (rising_nodup hr))]
theorem wrong_rows (hlk : Sp.looked x.code l = true) (hr : Sp.rising l = true) : codeA (.wrong x.code l (l.map fun f => (x.rows f).flatten).flatten) = if l.length < x.code.k + 2 then Sp.says (-5) else if (x.code.told l x.rows).isSome = true then Sp.says 0 else match x.code.wrong l x.rows with
    | none => Sp.says (-9)
    | some w => Sp.tells 1 [w] := by
  show (if Sp.looked x.code l = false then Sp.says (-1) else if Sp.rising l = false ∨ l.length < x.code.k + 2 ∨ (l.map fun f => (x.rows f).flatten).flatten.length ≠ l.length * (x.code.d * x.code.len) then Sp.says (-5) else if (x.code.told l (Sp.rowsIn x.code l (l.map fun f => (x.rows f).flatten).flatten)).isSome = true then Sp.says 0 else match x.code.wrong l (Sp.rowsIn x.code l (l.map fun f => (x.rows f).flatten).flatten) with
      | none => Sp.says (-9)
      | some w => Sp.tells 1 [w]) = _
  rw [if_neg (by rw [hlk]; decide), told_ext (rowsIn_eq hS (rising_nodup hr)), wrong_ext (rowsIn_eq hS (rising_nodup hr))]
  by_cases h : l.length < x.code.k + 2
  · rw [if_pos h, if_pos (.inr (.inl h))]
  · rw [if_neg h, if_neg (fun z => z.elim (fun z => by rw [hr] at z; cases z) fun z => z.elim h fun z => absurd (rows_flat_len hS) z)]
theorem part_len (f : Nat) : ∀ h ∈ l, (x.code.part (x.rows h) f).length = x.code.len := fun h hh => by rw [part_vAt (hS h hh)]; exact Rw.vAt_len (hS h hh).2
theorem mend_cases {f : Nat} (hlk : Sp.looked x.code (f :: l) = true) (hh : ∀ f ∈ l, x.has f = true) :
    (∃ z, z < 0 ∧ codeA (.again x.code f l (l.map fun h => x.code.part (x.rows h) f).flatten) = Sp.says z ∧ mendR x f l = (Sp.says z, x.nodes)) ∨
    (∃ r, Shape x.code.d x.code.len r ∧ codeA (.again x.code f l (l.map fun h => x.code.part (x.rows h) f).flatten) = Sp.gives (x.code.d : Nat) r.flatten ∧ mendR x f l = (Sp.says 0, x.nodes.set f (some r))) := by
  have ha : ¬ (l.any fun h => !x.has h) = true := fun e => by
    obtain ⟨f, hf, e⟩ := List.any_eq_true.mp e
    rw [hh f hf] at e
    cases e
  have hpl := part_len hS f
  have hfl : ((l.map fun h => x.code.part (x.rows h) f).flatten).length = l.length * x.code.len := map_flat_len hpl
  have hsh : Shape l.length x.code.len (l.map fun h => x.code.part (x.rows h) f) := by
    refine ⟨by simp, fun r hr => ?_⟩
    obtain ⟨h, hh, rfl⟩ := List.mem_map.mp hr
    exact hpl h hh
  have eA : codeA (.again x.code f l (l.map fun h => x.code.part (x.rows h) f).flatten) = (if Sp.looked x.code (f :: l) = false then Sp.says (-1) else if l.contains f = true then Sp.says (-4) else if Sp.rising l = false ∨ l.length < x.code.d ∨ (l.map fun h => x.code.part (x.rows h) f).flatten.length ≠ l.length * x.code.len then Sp.says (-5) else match x.code.again l (Sp.partsIn x.code l (l.map fun h => x.code.part (x.rows h) f).flatten) with
      | none => Sp.says (-9)
      | some r => Sp.gives (x.code.d : Nat) r.flatten) := rfl
  unfold mendR
  have hl : ¬ Sp.looked x.code (f :: l) = false := by rw [hlk]; decide
  rw [eA, if_neg hl, if_neg hl]
  by_cases h1 : l.contains f = true
  · have h2 : l.contains f = true ∨ l.any (fun (h : Nat) => !x.has h) = true := .inl h1
    rw [if_pos h1, if_pos h2]
    exact .inl ⟨-4, by decide, rfl, rfl⟩
  have h2 : ¬ (l.contains f = true ∨ l.any (fun (h : Nat) => !x.has h) = true) := fun z => z.elim h1 ha
  rw [if_neg h1, if_neg h2]
  by_cases h : Sp.rising l = false ∨ l.length < x.code.d
  · have h3 : Sp.rising l = false ∨ l.length < x.code.d ∨ (l.map fun h => x.code.part (x.rows h) f).flatten.length ≠ l.length * x.code.len := h.elim .inl fun z => .inr (.inl z)
    rw [if_pos h, if_pos h3]
    exact .inl ⟨-5, by decide, rfl, rfl⟩
  have h3 : ¬ (Sp.rising l = false ∨ l.length < x.code.d ∨ (l.map fun h => x.code.part (x.rows h) f).flatten.length ≠ l.length * x.code.len) := fun z => h (z.elim .inl fun z => z.elim .inr fun z => absurd hfl z)
  rw [if_neg h, if_neg h3]
  have hr : Sp.rising l = true := by cases q : Sp.rising l with
    | true => rfl
    | false => exact absurd (.inl q) h
  have hn := rising_nodup hr
  have hp : ∀ h ∈ l, Sp.partsIn x.code l (l.map fun h => x.code.part (x.rows h) f).flatten h = x.code.part (x.rows h) f := fun h hh => by
    obtain ⟨i, hi, rfl⟩ := List.mem_iff_getElem.mp hh
    have e : l.getD i 0 = l[i] := by rw [List.getD_eq_getElem?_getD, List.getElem?_eq_getElem hi]; rfl
    have := partsIn_get (c := x.code) (b := (l.map fun h => x.code.part (x.rows h) f).flatten) hn hi
    rw [Rw.rowsOf_flat hsh, e] at this
    rw [this, List.getD_eq_getElem?_getD, List.getElem?_map, List.getElem?_eq_getElem hi]
    rfl
  rw [again_ext hp]
  cases ed : x.code.again l (fun (h : Nat) => x.code.part (x.rows h) f) with
  | none => exact .inl ⟨-9, by decide, rfl, rfl⟩
  | some r => exact .inr ⟨r, (Tld.again_some hpl ed).1, rfl, rfl⟩
end
theorem living_rising (x : Sp.Cluster) : Sp.rising x.living = true := by
  unfold Sp.Cluster.living
  exact pw_rising (List.pairwise_lt_range.sublist List.filter_sublist)
theorem living_mem {x : Sp.Cluster} {f : Nat} (h : f ∈ x.living) : f < x.code.n ∧ x.has f = true := by
  unfold Sp.Cluster.living at h
  obtain ⟨h1, h2⟩ := List.mem_filter.mp h
  exact ⟨by simpa using h1, h2⟩
theorem living_looked {x : Sp.Cluster} (o : Ok x.code) : Sp.looked x.code x.living = true := by
  unfold Sp.looked
  rw [(ok_iff _).mpr o, Bool.true_and]
  exact List.all_eq_true.mpr fun f hf => decide_eq_true (living_mem hf).1
theorem changed_shape {c : Sp.Code} (kd : c.k ≤ c.d) {f i : Nat} {r : List Sp.Bytes} (hr : Shape c.d c.len r) {e : Sp.Bytes} (he : e.length = c.len) : Shape c.d c.len (c.changed f r i e) := by
  unfold Sp.Code.changed
  have h2 := Tld.rows_shape kd (only_shape (c := c) (i := i) he) f
  refine ⟨by rw [List.length_zipWith, hr.1, h2.1, Nat.min_self], fun b hb => ?_⟩
  obtain ⟨j, hj, rfl⟩ := List.mem_iff_getElem.mp hb
  rw [List.getElem_zipWith, Rw.xor_len, hr.2 _ (List.getElem_mem _), h2.2 _ (List.getElem_mem _), Nat.min_self]
def partly (x : Sp.Cluster) (i : Nat) (e : Sp.Bytes) (t : Nat) : List (Option (List Sp.Bytes)) := (List.range x.code.n).map fun f => (x.nodes.getD f none).map fun r => if f ∈ x.living.take t then x.code.changed f r i e else r
theorem partly_zero {x : Sp.Cluster} (h : x.nodes.length = x.code.n) (i : Nat) (e : Sp.Bytes) : partly x i e 0 = x.nodes := by
  unfold partly
  conv => rhs; rw [Rw.list_range none x.nodes, h]
  refine List.map_congr_left fun f _ => ?_
  rw [List.take_zero]
  cases x.nodes.getD f none <;> simp
theorem partly_all {x : Sp.Cluster} (h : x.nodes.length = x.code.n) (i : Nat) (e : Sp.Bytes) : partly x i e x.living.length = x.nodes.zipIdx.map fun (y : Option (List Sp.Bytes) × Nat) => y.1.map fun (r : List Sp.Bytes) => x.code.changed y.2 r i e := by
  unfold partly
  rw [List.take_length]
  refine List.ext_getElem (by simp [h]) fun f h1 h2 => ?_
  have hf : f < x.code.n := by simpa using h1
  rw [List.getElem_map, List.getElem_range, List.getElem_map, List.getElem_zipIdx, Nat.zero_add]
  rw [List.getD_eq_getElem?_getD, List.getElem?_eq_getElem (by omega), Option.getD_some]
  cases q : x.nodes[f] with
  | none => rfl
  | some r =>
    have : f ∈ x.living := by
      unfold Sp.Cluster.living
      refine List.mem_filter.mpr ⟨by simpa using hf, ?_⟩
      unfold Sp.Cluster.has Sp.Cluster.at_
      rw [List.getD_eq_getElem?_getD, List.getElem?_eq_getElem (by omega), q]
      rfl
    show some (if f ∈ x.living then x.code.changed f r i e else r) = some (x.code.changed f r i e)
    rw [if_pos this]
theorem partly_at {x : Sp.Cluster} {i : Nat} {e : Sp.Bytes} {t f : Nat} (hf : f < x.code.n) : (partly x i e t).getD f none = (x.nodes.getD f none).map fun r => if f ∈ x.living.take t then x.code.changed f r i e else r := by
  unfold partly
  exact Rw.getD_range _ _ hf
theorem partly_succ {x : Sp.Cluster} {i : Nat} {e : Sp.Bytes} {t : Nat} (ht : t < x.living.length) : partly x i e (t + 1) = (partly x i e t).set (x.living.getD t 0) (some (x.code.changed (x.living.getD t 0) (x.rows (x.living.getD t 0)) i e)) := by
  have hm := living_mem (Tld.getD_mem ht)
  have htk : x.living.take (t + 1) = x.living.take t ++ [x.living.getD t 0] := by
    rw [List.take_add_one, List.getElem?_eq_getElem ht, List.getD_eq_getElem?_getD, List.getElem?_eq_getElem ht]
    rfl
  have hl : (partly x i e t).length = x.code.n := by unfold partly; simp
  refine List.ext_getElem (by rw [List.length_set, hl]; unfold partly; simp) fun f h1 h2 => ?_
  have hf : f < x.code.n := by
    unfold partly at h1
    simpa using h1
  have e1 := partly_at (x := x) (i := i) (e := e) (t := t + 1) hf
  have e2 := partly_at (x := x) (i := i) (e := e) (t := t) hf
  rw [List.getD_eq_getElem?_getD, List.getElem?_eq_getElem h1, Option.getD_some] at e1
  rw [List.getD_eq_getElem?_getD, List.getElem?_eq_getElem (by omega), Option.getD_some] at e2
  rw [e1, List.getElem_set]
  by_cases h : x.living.getD t 0 = f
  · rw [if_pos h, htk, h]
    have hr : x.nodes.getD f none = some (x.rows f) := by
      have := hm.2
      rw [h] at this
      unfold Sp.Cluster.rows
      unfold Sp.Cluster.has Sp.Cluster.at_ at this
      unfold Sp.Cluster.at_
      obtain ⟨r, hr⟩ := Option.isSome_iff_exists.mp this
      rw [hr]
      rfl
    rw [hr]
    show some (if f ∈ x.living.take t ++ [f] then _ else _) = _
    rw [if_pos (by simp)]
  · rw [if_neg h, e2, htk]
    congr 1
    funext r
    have : (f ∈ x.living.take t ++ [x.living.getD t 0]) ↔ f ∈ x.living.take t := by
      rw [List.mem_append]
      exact ⟨fun z => z.elim id fun z => (h ((List.mem_singleton.mp z).symm)).elim, .inl⟩
    by_cases q : f ∈ x.living.take t
    · rw [if_pos q, if_pos (this.mpr q)]
    · rw [if_neg q, if_neg fun z => q (this.mp z)]
theorem living_new {x : Sp.Cluster} {t : Nat} (ht : t < x.living.length) : x.living.getD t 0 ∉ x.living.take t := fun h => by
  obtain ⟨j, hj, e⟩ := List.mem_iff_getElem.mp h
  rw [List.length_take] at hj
  rw [List.getElem_take] at e
  rw [List.getD_eq_getElem?_getD, List.getElem?_eq_getElem ht, Option.getD_some] at e
  have := (List.getElem_inj (rising_nodup (living_rising x))).mp e
  omega
end Sn
end
section
set_option maxHeartbeats 4000000
namespace Sn
open PySem PySem.Spec PyProof.Rows L2
open Rw (vAt throughR)
open Tld (Ok likely toldM againM ok_iff)
open Gau (Shape)
variable {Bd : Addr → Prop}
section
variable {P : Program} {w : World} {K : PySem.W.Frag} {mg : Str → Option Value} {base : Heap} {C CL : Addr}
theorem sc_lose : FnScope ["cluster", "node"] ["cluster", "node"] (defScope (top 59)) := ⟨rfl, rfl, rfl, by decide +kernel, rfl, by decide +kernel, by decide +kernel⟩
def sp_lose (C CL : Addr) : L2.Sp := fun vs H Q _ => ∃ (Bd : Addr → Prop) (p : Addr) (x : Sp.Cluster) (cv : V) (ha : Addr) (hv : List V) (n : Nat), vs = [.ref p, nv n] ∧ Clu Bd C CL H p x cv ha hv ∧ RM Bd C H Q ha x.code (loseR x n).1 (loseR x n).2
theorem ok_lose {f : Addr} {fd : FuncData} (F : Fun K "lose" "lose" (top 59) f fd) (cn : Cn mg) (L : Cl K CL) (g_is_missing : Gd P w K mg base 2 "is_missing" ["code", "nodes"] (sp_is_missing C)) (g_has_lost : Gd P w K mg base 1 "has_lost" ["cluster", "nodes"] (sp_has_lost C CL)) :
    FnOk P w K mg base CX0 3 f fd ["cluster", "node"] (sp_lose C CL) := by
  refine F.ok sc_lose (fun vs H Q E h => ?_) (fun cdv A outer s H vs Q E hr h => ?_)
  · obtain ⟨Bd, p, x, cv, ha, hv, n, rfl, _⟩ := h
    rfl
  · obtain ⟨Bd, p, x, cv, ha, hv, n, rfl, hc, k⟩ := h
    have c_NO_SUCH := cn.noSuch
    have c_NOT_LET := cn.notLet
    obtain ⟨dx, hp⟩ := hc.ins
    refine ⟨_, (pss_cons (ps_if (pt_truth (pe_g g_is_missing (hr.mono (by decide)) rfl (pa_cons (pe_fld (pv 0) rfl) (pa_cons (pe_lst (pa_cons (pv 1) pa_nil)) pa_nil))) (fun _ => rfl)) (pss_one (ps_ret (pe_lst (pa_cons (pe_ci c_NO_SUCH rfl) pa_nil)))) pss_nil)
      (pss_cons (ps_if (pt_truth (pe_g g_has_lost (hr.mono (by decide)) rfl (pa_cons (pv 0) (pa_cons (pe_lst (pa_cons (pv 1) pa_nil)) pa_nil))) (fun _ => rfl)) (pss_one (ps_ret (pe_lst (pa_cons (pe_ci c_NOT_LET rfl) pa_nil)))) pss_nil)
      (pss_cons (ps_asg pe_non (pg_sub (pe_fld (pv 0) rfl) (pv 1) set_list))
      (pss_one (ps_ret (pe_lst (pa_cons pe_int pa_nil))))))), ?_⟩
    refine ⟨_, rfl, p, CL, dx, _, _, rfl, hp, L.cl, L.nc, cluF_code _ _, _, rfl, z1L, fun l1 hl1 => ?_⟩
    have s1 : Same H (upd H l1 (.lst [nv n])) := .new hl1
    refine ⟨_, _, x.code, [n], rfl, hc.code.mono s1, ⟨l1, rfl, upd_same⟩, by show 1 ≤ 65536; decide, fun H1 s2 => ?_⟩
    have s12 := s1.trans s2
    rw [looked_one_iff hc.ok]
    refine ⟨_, rfl, ite2 (fun h => ?_) (fun h => ?_)⟩
    · have h := of_decide_eq_false (not_f h)
      rw [show loseR x n = (Sp.says (-1), x.nodes) from if_pos (by omega)] at k
      exact ⟨z1L, fun l hl => (RM.same k hc).one s12 hl⟩
    have h := of_decide_eq_true (not_t h)
    have k : RM Bd C H Q ha x.code (if x.has n = false then (Sp.says (-4), x.nodes) else (Sp.says 0, x.nodes.set n none) : Sp.Answer × List (Option (List Sp.Bytes))).1 (if x.has n = false then (Sp.says (-4), x.nodes) else (Sp.says 0, x.nodes.set n none) : Sp.Answer × List (Option (List Sp.Bytes))).2 := by
      rw [show loseR x n = _ from if_neg (by omega)] at k
      exact k
    refine ⟨_, rfl, _, rfl, z1L, fun l2 hl2 => ?_⟩
    have s3 := s12.trans (.new (o := .lst [nv n]) hl2)
    refine ⟨Bd, p, x, cv, ha, hv, _, [n], rfl, hc.mono s3, ⟨l2, rfl, upd_same⟩, by show 1 ≤ 65536; decide, fun f hf => ?_, fun H4 s4 => ?_⟩
    · have : f = n := by simpa using hf
      omega
    have s14 := s3.trans s4
    rw [any_one]
    refine ⟨_, rfl, ite2 (fun h2 => ?_) (fun h2 => ?_)⟩
    · rw [if_pos (not_f h2)] at k
      exact ⟨z1L, fun l hl => (RM.same k hc).one s14 hl⟩
    rw [if_neg (by rw [not_t h2]; decide)] at k
    refine ⟨_, rfl, p, CL, dx, _, _, rfl, s14 _ _ hp, L.cl, L.nh, cluF_held _ _, _, rfl, ha, hv, _, n, rfl, rfl, s14 _ _ hc.held, ixN_nat (by rw [hc.nodes.hl]; exact h), z1L, fun l5 hl5 => ?_⟩
    exact RM.set (n := none) k hc h s14 rfl hl5
theorem sc_spoil : FnScope ["cluster", "node", "j", "difference", "code"] ["cluster", "node", "j", "difference"] (defScope (top 60)) := ⟨rfl, rfl, rfl, by decide +kernel, rfl, by decide +kernel, by decide +kernel⟩
def sp_spoil (C CL : Addr) : L2.Sp := fun vs H Q _ => ∃ (Bd : Addr → Prop) (p : Addr) (x : Sp.Cluster) (cv : V) (ha : Addr) (hv : List V) (n j : Nat) (y : V) (e : Sp.Bytes), vs = [.ref p, nv n, nv j, y] ∧ Clu Bd C CL H p x cv ha hv ∧ IsB H y e ∧ RM Bd C H Q ha x.code (spoilR x n j e).1 (spoilR x n j e).2
theorem ok_spoil {f : Addr} {fd : FuncData} (F : Fun K "spoil" "spoil" (top 60) f fd) (cn : Cn mg) (B : Bi mg) (T : Cc K C) (L : Cl K CL) (g_is_missing : Gd P w K mg base 2 "is_missing" ["code", "nodes"] (sp_is_missing C)) (g_has_lost : Gd P w K mg base 1 "has_lost" ["cluster", "nodes"] (sp_has_lost C CL))
    (g_plus : Gd P w K mg base 1 "plus" ["row", "other"] sp_plus) (g_alone_at : Gd P w K mg base 1 "alone_at" ["at", "row", "count"] sp_alone_at) :
    FnOk P w K mg base CX0 3 f fd ["cluster", "node", "j", "difference"] (sp_spoil C CL) := by
  refine F.ok sc_spoil (fun vs H Q E h => ?_) (fun cdv A outer s H vs Q E hr h => ?_)
  · obtain ⟨Bd, p, x, cv, ha, hv, n, j, y, e, rfl, _⟩ := h
    rfl
  · obtain ⟨Bd, p, x, cv, ha, hv, n, j, y, e, rfl, hc, ⟨u, rfl, hu⟩, k⟩ := h
    have c_NO_SUCH := cn.noSuch
    have c_NOT_LET := cn.notLet
    have c_UNFIT := cn.unfit
    obtain ⟨dx, hp⟩ := hc.ins
    obtain ⟨q, qx, rfl, hq⟩ := hc.code
    have o := hc.ok
    have d6 := o.d6
    refine ⟨_, (pss_cons (ps_set (i := 4) sc_spoil.nd rfl (Or.inl rfl) (pe_fld (pv 0) rfl))
      (pss_cons (ps_if (PW.pt (pw_or (pt_truth (pe_g g_is_missing (hr.mono (by decide)) rfl (pa_cons (pv 4) (pa_cons (pe_lst (pa_cons (pv 1) pa_nil)) pa_nil))) (fun _ => rfl)) (pw_or1 (pt_cmpR op_ge (pv 2) (pe_fld (pv 4) rfl) (nomark _))))) (pss_one (ps_ret (pe_lst (pa_cons (pe_ci c_NO_SUCH rfl) pa_nil)))) pss_nil)
      (pss_cons (ps_if (pt_truth (pe_g g_has_lost (hr.mono (by decide)) rfl (pa_cons (pv 0) (pa_cons (pe_lst (pa_cons (pv 1) pa_nil)) pa_nil))) (fun _ => rfl)) (pss_one (ps_ret (pe_lst (pa_cons (pe_ci c_NOT_LET rfl) pa_nil)))) pss_nil)
      (pss_cons (ps_if (pt_cmpR op_ne (pe_callB call_len_seq rfl B.len PySem.boot_len (pa_cons (pv 3) pa_nil)) (pe_fld (pv 4) rfl) (nomark _)) (pss_one (ps_ret (pe_lst (pa_cons (pe_ci c_UNFIT rfl) pa_nil)))) pss_nil)
      (pss_cons (ps_asg (pe_g g_plus (hr.mono (by decide)) rfl (pa_cons (pe_ix ix_list (pe_fld (pv 0) rfl) (pv 1) (fun _ _ => rfl)) (pa_cons (pe_g g_alone_at (hr.mono (by decide)) rfl (pa_cons (pv 2) (pa_cons (pv 3) (pa_cons (pe_fld (pv 4) rfl) pa_nil)))) pa_nil))) (pg_sub (pe_fld (pv 0) rfl) (pv 1) set_list))
      (pss_one (ps_ret (pe_lst (pa_cons pe_int pa_nil))))))))), ?_⟩
    refine ⟨_, rfl, p, CL, dx, _, _, rfl, hp, L.cl, L.nc, cluF_code _ _, ?_⟩
    refine ⟨_, rfl, _, rfl, z1L, fun l1 hl1 => ?_⟩
    have s1 : Same H (upd H l1 (.lst [nv n])) := .new hl1
    refine ⟨_, _, x.code, [n], rfl, hc.code.mono s1, ⟨l1, rfl, upd_same⟩, by show 1 ≤ 65536; decide, fun H1 s2 => ?_⟩
    have s12 := s1.trans s2
    rw [looked_one_iff hc.ok]
    have bad : (x.code.n ≤ n ∨ x.code.d ≤ j) → (1 ≤ sizeLine ∧ ∀ l, H1 l = none → Q (.ref l) (upd H1 l (.lst [V.int (-1)]))) := fun h => by
      rw [show spoilR x n j e = (Sp.says (-1), x.nodes) from if_pos h] at k
      exact ⟨z1L, fun l hl => (RM.same k hc).one s12 hl⟩
    refine ⟨_, rfl, ite2 (fun h => ?_) (fun h => ?_)⟩
    · have h := of_decide_eq_false (not_f h)
      exact iteT (bad (.inl (by omega)))
    have h := of_decide_eq_true (not_t h)
    refine ⟨_, rfl, _, rfl, q, C, qx, _, _, rfl, s12 _ _ hq, T.cl, T.nd, codeF_d _, _, _, rfl, rfl, _, rfl, ite2 (fun h2 => ?_) (fun h2 => ?_)⟩
    · have h2 := of_decide_eq_true h2
      exact bad (.inr (by omega))
    have hj : j < x.code.d := by
      have : ¬ ((x.code.d : Int) ≤ (j : Int)) := fun z => h2 (decide_eq_true z)
      omega
    have k : RM Bd C H Q ha x.code (if x.has n = false then (Sp.says (-4), x.nodes) else if e.length ≠ x.code.len then (Sp.says (-5), x.nodes) else (Sp.says 0, x.nodes.set n (some ((x.rows n).set j (Sp.xor ((x.rows n).getD j []) e)))) : Sp.Answer × List (Option (List Sp.Bytes))).1
        (if x.has n = false then (Sp.says (-4), x.nodes) else if e.length ≠ x.code.len then (Sp.says (-5), x.nodes) else (Sp.says 0, x.nodes.set n (some ((x.rows n).set j (Sp.xor ((x.rows n).getD j []) e)))) : Sp.Answer × List (Option (List Sp.Bytes))).2 := by
      rw [show spoilR x n j e = _ from if_neg (by omega)] at k
      exact k
    refine ⟨_, rfl, _, rfl, z1L, fun l2 hl2 => ?_⟩
    have s3 := s12.trans (.new (o := .lst [nv n]) hl2)
    refine ⟨Bd, p, x, _, ha, hv, _, [n], rfl, hc.mono s3, ⟨l2, rfl, upd_same⟩, by show 1 ≤ 65536; decide, fun f hf => ?_, fun H4 s4 => ?_⟩
    · have : f = n := by simpa using hf
      omega
    have s14 := s3.trans s4
    rw [any_one]
    refine ⟨_, rfl, ite2 (fun h2 => ?_) (fun h2 => ?_)⟩
    · rw [if_pos (not_f h2)] at k
      exact ⟨z1L, fun l hl => (RM.same k hc).one s14 hl⟩
    have h2 := not_t h2
    rw [if_neg (by rw [h2]; decide)] at k
    refine ⟨_, rfl, u, _, rfl, .inl (SqL.of (s14 _ _ hu)), _, rfl, q, C, qx, _, _, rfl, s14 _ _ hq, T.cl, T.nw, codeF_w _, rfl, _, rfl, ite2 (fun h3 => ?_) (fun h3 => ?_)⟩
    · rw [bvs_len] at h3
      rw [if_pos (ne_int.mp h3)] at k
      exact ⟨z1L, fun l hl => (RM.same k hc).one s14 hl⟩
    rw [bvs_len] at h3
    have he : e.length = x.code.len := Decidable.byContradiction fun z => h3 (ne_int.mpr z)
    rw [if_neg (fun z => z he)] at k
    rcases hc.has h with ⟨_, hS, a, h4, h5⟩ | ⟨h1, _⟩
    · refine ⟨_, rfl, p, CL, dx, _, _, rfl, s14 _ _ hp, L.cl, L.nh, cluF_held _ _, _, rfl, ha, hv, _, _, rfl, rfl, SqL.of (s14 _ _ hc.held), at_of rfl h4, ?_⟩
      refine ⟨_, rfl, _, rfl, _, rfl, q, C, qx, _, _, rfl, s14 _ _ hq, T.cl, T.nd, codeF_d _, _, j, x.code.d, e, rfl, ⟨u, rfl, s14 _ _ hu⟩, hj, by omega, by rw [he]; exact o.l64, fun H5 a5 s5 n5 e5 => ?_⟩
      have s15 := s14.trans s5
      have hfl := Rw.flat_len hS.2
      rw [hS.1] at hfl
      have hdl := d_len_le o
      refine ⟨_, _, _, _, rfl, ⟨a, rfl, s15 _ _ h5⟩, ⟨a5, rfl, e5⟩, by omega, fun H6 a6 s6 n6 e6 => ?_⟩
      have s16 := s15.trans s6
      obtain ⟨f1, f2⟩ := spoil_flat hj he hS
      rw [he, f1] at e6
      refine ⟨_, rfl, p, CL, dx, _, _, rfl, s16 _ _ hp, L.cl, L.nh, cluF_held _ _, _, rfl, ha, hv, _, n, rfl, rfl, s16 _ _ hc.held, ixN_nat (by rw [hc.nodes.hl]; exact h), z1L, fun l7 hl7 => ?_⟩
      exact RM.set (n := some ((x.rows n).set j (Sp.xor ((x.rows n).getD j []) e))) k hc h s16 ⟨f2, a6, rfl, e6, hc.fresh (Same.keep s15) n6⟩ hl7
    · rw [h2] at h1; cases h1
theorem sc_read : FnScope ["cluster", "nodes"] ["cluster", "nodes"] (defScope (top 63)) := ⟨rfl, rfl, rfl, by decide +kernel, rfl, by decide +kernel, by decide +kernel⟩
def sp_read (C CL : Addr) : L2.Sp := fun vs H Q _ => ∃ (Bd : Addr → Prop) (p : Addr) (x : Sp.Cluster) (cv : V) (ha : Addr) (hv : List V) (y : V) (l : List Nat), vs = [.ref p, y] ∧ Clu Bd C CL H p x cv ha hv ∧ IsN H y l ∧ l.length ≤ 32768 ∧ RA H Q (readA x l)
theorem ok_read {f : Addr} {fd : FuncData} (F : Fun K "read" "read" (top 63) f fd) (cn : Cn mg) (L : Cl K CL) (g_is_missing : Gd P w K mg base 2 "is_missing" ["code", "nodes"] (sp_is_missing C)) (g_has_lost : Gd P w K mg base 1 "has_lost" ["cluster", "nodes"] (sp_has_lost C CL))
    (g_tell : Gd P w K mg base 6 "tell" ["code", "nodes", "rows"] (sp_tell C)) (g_rows_of_nodes : Gd P w K mg base 1 "rows_of_nodes" ["cluster", "nodes"] (sp_rows_of_nodes C CL)) :
    FnOk P w K mg base CX0 7 f fd ["cluster", "nodes"] (sp_read C CL) := by
  refine F.ok sc_read (fun vs H Q E h => ?_) (fun cdv A outer s H vs Q E hr h => ?_)
  · obtain ⟨Bd, p, x, cv, ha, hv, y, l, rfl, _⟩ := h
    rfl
  · obtain ⟨Bd, p, x, cv, ha, hv, y, l, rfl, hc, ⟨q, rfl, hq⟩, hl, k⟩ := h
    have c_NO_SUCH := cn.noSuch
    have c_NOT_LET := cn.notLet
    obtain ⟨dx, hp⟩ := hc.ins
    refine ⟨_, (pss_cons (ps_if (pt_truth (pe_g g_is_missing (hr.mono (by decide)) rfl (pa_cons (pe_fld (pv 0) rfl) (pa_cons (pv 1) pa_nil))) (fun _ => rfl)) (pss_one (ps_ret (pe_lst (pa_cons (pe_ci c_NO_SUCH rfl) pa_nil)))) pss_nil)
      (pss_cons (ps_if (pt_truth (pe_g g_has_lost (hr.mono (by decide)) rfl (pa_cons (pv 0) (pa_cons (pv 1) pa_nil))) (fun _ => rfl)) (pss_one (ps_ret (pe_lst (pa_cons (pe_ci c_NOT_LET rfl) pa_nil)))) pss_nil)
      (pss_one (ps_ret (pe_g g_tell (hr.mono (by decide)) rfl (pa_cons (pe_fld (pv 0) rfl) (pa_cons (pv 1) (pa_cons (pe_g g_rows_of_nodes (hr.mono (by decide)) rfl (pa_cons (pv 0) (pa_cons (pv 1) pa_nil))) pa_nil)))))))), ?_⟩
    refine ⟨_, rfl, p, CL, dx, _, _, rfl, hp, L.cl, L.nc, cluF_code _ _, _, rfl, _, _, x.code, l, rfl, hc.code, ⟨q, rfl, hq⟩, by omega, fun H1 s1 => ?_⟩
    refine ⟨_, rfl, ite2 (fun h => ?_) (fun h => ?_)⟩
    · rw [show readA x l = Sp.says (-1) from if_pos (not_f h)] at k
      exact ⟨z1L, fun l hl => k.one s1 hl⟩
    have hlk := not_t h
    obtain ⟨o, hnn⟩ := looked_ok hlk
    refine ⟨_, rfl, _, rfl, Bd, p, x, cv, ha, hv, _, l, rfl, hc.mono s1, ⟨q, rfl, s1 _ _ hq⟩, by omega, hnn, fun H2 s2 => ?_⟩
    have s12 := s1.trans s2
    refine ⟨_, rfl, ite2 (fun h => ?_) (fun h => ?_)⟩
    · rw [show readA x l = Sp.says (-4) from (if_neg (by rw [hlk]; decide)).trans (if_pos h)] at k
      exact ⟨z1L, fun l hl => k.one s12 hl⟩
    have hh := any_f h
    have hS : ∀ f ∈ l, Shape x.code.d x.code.len (x.rows f) := fun f hf => by
      rcases hc.has (hnn f hf) with ⟨_, h2, _⟩ | ⟨h1, _⟩
      · exact h2
      · rw [hh f hf] at h1; cases h1
    refine ⟨_, rfl, p, CL, dx, _, _, rfl, s12 _ _ hp, L.cl, L.nc, cluF_code _ _, _, rfl, _, rfl, _, rfl, Bd, p, x, cv, ha, hv, _, l, rfl, hc.mono s12, ⟨q, rfl, s12 _ _ hq⟩, hl, fun f hf => ⟨hnn f hf, hh f hf⟩, fun H3 a3 s3 n3 e3 => ?_⟩
    have s13 := s12.trans s3
    refine ⟨_, _, _, x.code, l, _, rfl, hc.code.mono s13, ⟨q, rfl, s13 _ _ hq⟩, ⟨a3, rfl, e3⟩, by omega, ?_⟩
    rw [tell_rows hS hlk hh]
    exact k.mono s13
theorem sc_look : FnScope ["cluster", "nodes"] ["cluster"] (defScope (top 64)) := ⟨rfl, rfl, rfl, by decide +kernel, rfl, by decide +kernel, by decide +kernel⟩
def sp_look (C CL : Addr) : L2.Sp := fun vs H Q _ => ∃ (Bd : Addr → Prop) (p : Addr) (x : Sp.Cluster) (cv : V) (ha : Addr) (hv : List V), vs = [.ref p] ∧ Clu Bd C CL H p x cv ha hv ∧ RA H Q (lookA x)
theorem ok_look {f : Addr} {fd : FuncData} (F : Fun K "look" "look" (top 64) f fd) (L : Cl K CL) (g_nodes_left : Gd P w K mg base 1 "nodes_left" ["cluster"] (sp_nodes_left C CL)) (g_wrong : Gd P w K mg base 6 "wrong" ["code", "nodes", "rows"] (sp_wrong C)) (g_rows_of_nodes : Gd P w K mg base 1 "rows_of_nodes" ["cluster", "nodes"] (sp_rows_of_nodes C CL)) :
    FnOk P w K mg base CX0 7 f fd ["cluster"] (sp_look C CL) := by
  refine F.ok sc_look (fun vs H Q E h => ?_) (fun cdv A outer s H vs Q E hr h => ?_)
  · obtain ⟨Bd, p, x, cv, ha, hv, rfl, _⟩ := h
    rfl
  · obtain ⟨Bd, p, x, cv, ha, hv, rfl, hc, k⟩ := h
    obtain ⟨dx, hp⟩ := hc.ins
    have hle : x.living.length ≤ 9 := rising_len (living_rising x) fun f hf => Nat.lt_of_lt_of_le (living_mem hf).1 hc.ok.n9
    have hS : ∀ f ∈ x.living, Shape x.code.d x.code.len (x.rows f) := fun f hf => by
      rcases hc.has (living_mem hf).1 with ⟨_, h2, _⟩ | ⟨h1, _⟩
      · exact h2
      · rw [(living_mem hf).2] at h1; cases h1
    refine ⟨_, (pss_cons (ps_set (i := 1) sc_look.nd rfl (Or.inl rfl) (pe_g g_nodes_left (hr.mono (by decide)) rfl (pa_cons (pv 0) pa_nil)))
      (pss_one (ps_ret (pe_g g_wrong (hr.mono (by decide)) rfl (pa_cons (pe_fld (pv 0) rfl) (pa_cons (pv 1) (pa_cons (pe_g g_rows_of_nodes (hr.mono (by decide)) rfl (pa_cons (pv 0) (pa_cons (pv 1) pa_nil))) pa_nil))))))), ?_⟩
    refine ⟨_, rfl, Bd, p, x, cv, ha, hv, rfl, hc, fun H1 a1 s1 n1 e1 => ?_⟩
    refine ⟨_, rfl, p, CL, dx, _, _, rfl, s1 _ _ hp, L.cl, L.nc, cluF_code _ _, _, rfl, _, rfl, _, rfl, Bd, p, x, cv, ha, hv, _, x.living, rfl, hc.mono s1, ⟨a1, rfl, e1⟩, by omega, fun f hf => living_mem hf, fun H3 a3 s3 n3 e3 => ?_⟩
    have s13 := s1.trans s3
    refine ⟨_, _, _, x.code, x.living, _, rfl, hc.code.mono s13, ⟨a1, rfl, s3 _ _ e1⟩, ⟨a3, rfl, e3⟩, by omega, ?_⟩
    rw [wrong_rows hS (living_looked hc.ok) (living_rising x)]
    exact RA.mono k s13
end
end Sn
end
section
set_option maxHeartbeats 4000000
namespace Sn
open PySem PySem.Spec PyProof.Rows L2
open Tld (Ok)
section
variable {P : Program} {w : World} {K : PySem.W.Frag} {mg : Str → Option Value} {base : Heap} {C CL CA : Addr}
theorem upd_upd {H : Hp} {p : Addr} {o u : HO} : upd (upd H p o) p u = upd H p u := by
  funext b
  unfold upd
  split <;> rfl
theorem sc_Code : FnScope ["self", "k", "d", "n", "width"] ["self", "k", "d", "n", "width"] (defScope (inClass (top 1) 0)) := ⟨rfl, rfl, rfl, by decide +kernel, rfl, by decide +kernel, by decide +kernel⟩
def sp_Code (C : Addr) : L2.Sp := fun vs H Q _ => ∃ (p dx : Addr) (k d n l : Nat), vs = [.ref p, nv k, nv d, nv n, nv l] ∧ H p = some (.ins C dx []) ∧ Q .non (upd H p (.ins C dx (codeF ⟨k, d, n, l⟩)))
theorem ok_Code {f : Addr} {fd : FuncData} (F : Fun K "__init__" "Code.__init__" (inClass (top 1) 0) f fd) (T : Cc K C) : FnOk P w K mg base CX0 1 f fd ["self", "k", "d", "n", "width"] (sp_Code C) := by
  refine F.ok sc_Code (fun vs H Q E h => ?_) (fun cdv A outer s H vs Q E hr h => ?_)
  · obtain ⟨p, dx, k, d, n, l, rfl, _⟩ := h
    rfl
  · obtain ⟨p, dx, k, d, n, l, rfl, hp, q⟩ := h
    refine ⟨_, pss_cons (ps_fld (pv 0) (pv 1) rfl) (pss_cons (ps_fld (pv 0) (pv 2) rfl) (pss_cons (ps_fld (pv 0) (pv 3) rfl) (pss_one (ps_fld (pv 0) (pv 4) rfl)))), ?_⟩
    refine ⟨_, rfl, _, rfl, p, C, dx, _, rfl, hp, T.cl, T.nk, by show 0 < 1000; decide, ?_⟩
    refine ⟨_, rfl, _, rfl, p, C, dx, _, rfl, upd_same, T.cl, T.nd, by show 1 < 1000; decide, ?_⟩
    rw [upd_upd]
    refine ⟨_, rfl, _, rfl, p, C, dx, _, rfl, upd_same, T.cl, T.nn, by show 2 < 1000; decide, ?_⟩
    rw [upd_upd]
    refine ⟨_, rfl, _, rfl, p, C, dx, _, rfl, upd_same, T.cl, T.nw, by show 3 < 1000; decide, ?_⟩
    rw [upd_upd]
    exact q
theorem sc_Cluster : FnScope ["self", "code", "held"] ["self", "code", "held"] (defScope (inClass (top 52) 0)) := ⟨rfl, rfl, rfl, by decide +kernel, rfl, by decide +kernel, by decide +kernel⟩
def sp_Cluster (C : Addr) : L2.Sp := fun vs H Q _ => ∃ (p dx : Addr) (cv hv : V), vs = [.ref p, cv, hv] ∧ H p = some (.ins C dx []) ∧ Q .non (upd H p (.ins C dx (cluF cv hv)))
theorem ok_Cluster {f : Addr} {fd : FuncData} (F : Fun K "__init__" "Cluster.__init__" (inClass (top 52) 0) f fd) (T : Cl K CL) : FnOk P w K mg base CX0 1 f fd ["self", "code", "held"] (sp_Cluster CL) := by
  refine F.ok sc_Cluster (fun vs H Q E h => ?_) (fun cdv A outer s H vs Q E hr h => ?_)
  · obtain ⟨p, dx, cv, hv, rfl, _⟩ := h
    rfl
  · obtain ⟨p, dx, cv, hv, rfl, hp, q⟩ := h
    refine ⟨_, pss_cons (ps_fld (pv 0) (pv 1) rfl) (pss_one (ps_fld (pv 0) (pv 2) rfl)), ?_⟩
    refine ⟨_, rfl, _, rfl, p, CL, dx, _, rfl, hp, T.cl, T.nc, by show 0 < 1000; decide, ?_⟩
    refine ⟨_, rfl, _, rfl, p, CL, dx, _, rfl, upd_same, T.cl, T.nh, by show 1 < 1000; decide, ?_⟩
    rw [upd_upd]
    exact q
structure Ca (K : PySem.W.Frag) (C : Addr) : Prop where
  cl : Cls K C
  nn : NoAttr K C "number"
  nw : NoAttr K C "whole"
  nl : NoAttr K C "lists"
  ne : NoAttr K C "end"
def callF (n w l e : V) : List (Str × V) := putF "end" e (putF "lists" l (putF "whole" w (putF "number" n [])))
theorem callF_n (n w l e : V) : (callF n w l e).lookup ("number" : Str) = some n := by unfold callF; simp only [lookup_putF]; rfl
theorem callF_w (n w l e : V) : (callF n w l e).lookup ("whole" : Str) = some w := by unfold callF; simp only [lookup_putF]; rfl
theorem callF_l (n w l e : V) : (callF n w l e).lookup ("lists" : Str) = some l := by unfold callF; simp only [lookup_putF]; rfl
theorem callF_e (n w l e : V) : (callF n w l e).lookup ("end" : Str) = some e := by unfold callF; simp only [lookup_putF]; rfl
theorem sc_Call : FnScope ["self", "number", "whole", "lists", "end"] ["self", "number", "whole", "lists", "end"] (defScope (inClass (top 67) 0)) := ⟨rfl, rfl, rfl, by decide +kernel, rfl, by decide +kernel, by decide +kernel⟩
def sp_Call (C : Addr) : L2.Sp := fun vs H Q _ => ∃ (p dx : Addr) (k d n l : V), vs = [.ref p, k, d, n, l] ∧ H p = some (.ins C dx []) ∧ Q .non (upd H p (.ins C dx (callF k d n l)))
theorem ok_Call {f : Addr} {fd : FuncData} (F : Fun K "__init__" "Call.__init__" (inClass (top 67) 0) f fd) (T : Ca K CA) : FnOk P w K mg base CX0 1 f fd ["self", "number", "whole", "lists", "end"] (sp_Call CA) := by
  refine F.ok sc_Call (fun vs H Q E h => ?_) (fun cdv A outer s H vs Q E hr h => ?_)
  · obtain ⟨p, dx, k, d, n, l, rfl, _⟩ := h
    rfl
  · obtain ⟨p, dx, k, d, n, l, rfl, hp, q⟩ := h
    refine ⟨_, pss_cons (ps_fld (pv 0) (pv 1) rfl) (pss_cons (ps_fld (pv 0) (pv 2) rfl) (pss_cons (ps_fld (pv 0) (pv 3) rfl) (pss_one (ps_fld (pv 0) (pv 4) rfl)))), ?_⟩
    refine ⟨_, rfl, _, rfl, p, CA, dx, _, rfl, hp, T.cl, T.nn, by show 0 < 1000; decide, ?_⟩
    refine ⟨_, rfl, _, rfl, p, CA, dx, _, rfl, upd_same, T.cl, T.nw, by show 1 < 1000; decide, ?_⟩
    rw [upd_upd]
    refine ⟨_, rfl, _, rfl, p, CA, dx, _, rfl, upd_same, T.cl, T.nl, by show 2 < 1000; decide, ?_⟩
    rw [upd_upd]
    refine ⟨_, rfl, _, rfl, p, CA, dx, _, rfl, upd_same, T.cl, T.ne, by show 3 < 1000; decide, ?_⟩
    rw [upd_upd]
    exact q
structure Kd (P : Program) (w : World) (K : PySem.W.Frag) (mg : Str → Option Value) (base : Heap) (x : Str) (C : Addr) (ps : List Str) (sp : L2.Sp) : Prop where
  ex : ∃ f fd, Mk K C f ∧ FnOk P w K mg base CX0 1 f fd ps sp ∧ mg x = some (.ref C) ∧ Binds K fd ps []
theorem pe_mk {X : Cx} {x : Str} {ps : List Str} {sp : L2.Sp} {p pos : Pos} {e : Expr} {es : List Expr} {t : TA} {C : Addr} (g : Kd X.prog X.w X.K X.mg X.base x C ps sp) (hr : Room 2 X.A) (hg : Gl X x) (ha : PA X (e :: es) t) (hdb : (x == ("__debug__" : Str)) = false := by decide)
    (he : starEach (e :: es) X.env = (false, eval e X.env) :: starEach es X.env := by rfl) (hpl : (backTo pos (starEach es X.env)).any (·.1) = false := by rfl) :
    PE X (.Call (.Name x p) (e :: es) [] pos) (tMake C sp [] E0 t) := by
  obtain ⟨f, fd, M, F, hm, hb⟩ := g.ex
  exact pe_make M F hr hg hm hb .nil pass0 ha hdb he hpl
end
end Sn
end
section
set_option maxHeartbeats 4000000
namespace Sn
open PySem PySem.Spec PyProof.Rows L2
open Rw (vAt throughR)
open Tld (Ok likely toldM againM ok_iff)
open Gau (Shape)
variable {Bd : Addr → Prop}
section
variable {P : Program} {w : World} {K : PySem.W.Frag} {mg : Str → Option Value} {base : Heap} {C CL : Addr}
theorem sc_mend : FnScope ["cluster", "node", "nodes", "code", "parts", "helper", "answer"] ["cluster", "node", "nodes"] (defScope (top 61)) := ⟨rfl, rfl, rfl, by decide +kernel, rfl, by decide +kernel, by decide +kernel⟩
def sp_mend (C CL : Addr) : L2.Sp := fun vs H Q _ => ∃ (Bd : Addr → Prop) (p : Addr) (x : Sp.Cluster) (cv : V) (ha : Addr) (hv : List V) (n : Nat) (y : V) (l : List Nat), vs = [.ref p, nv n, y] ∧ Clu Bd C CL H p x cv ha hv ∧ IsN H y l ∧ l.length ≤ 32768 ∧ RM Bd C H Q ha x.code (mendR x n l).1 (mendR x n l).2
theorem ok_mend {f : Addr} {fd : FuncData} (F : Fun K "mend" "mend" (top 61) f fd) (cn : Cn mg) (L : Cl K CL) (g_is_missing : Gd P w K mg base 2 "is_missing" ["code", "nodes"] (sp_is_missing C)) (g_has_lost : Gd P w K mg base 1 "has_lost" ["cluster", "nodes"] (sp_has_lost C CL))
    (g_part_for : Gd P w K mg base 3 "part_for" ["code", "node", "rows"] (sp_part_for C)) (g_again : Gd P w K mg base 5 "again" ["code", "node", "nodes", "parts"] (sp_again C)) :
    FnOk P w K mg base CX0 6 f fd ["cluster", "node", "nodes"] (sp_mend C CL) := by
  refine F.ok sc_mend (fun vs H Q E h => ?_) (fun cdv A outer s H vs Q E hr h => ?_)
  · obtain ⟨Bd, p, x, cv, ha, hv, n, y, l, rfl, _⟩ := h
    rfl
  · obtain ⟨Bd, p, x, cv, ha, hv, n, y, l, rfl, hc, ⟨q, rfl, hq⟩, hl, k⟩ := h
    have c_NO_SUCH := cn.noSuch
    have c_NOT_LET := cn.notLet
    obtain ⟨dx, hp⟩ := hc.ins
    refine ⟨_, (pss_cons (ps_set (i := 3) sc_mend.nd rfl (Or.inl rfl) (pe_fld (pv 0) rfl))
      (pss_cons (ps_if (pt_truth (pe_g g_is_missing (hr.mono (by decide)) rfl (pa_cons (pv 3) (pa_cons (pe_op op_cat (pe_lst (pa_cons (pv 1) pa_nil)) (pv 2)) pa_nil))) (fun _ => rfl)) (pss_one (ps_ret (pe_lst (pa_cons (pe_ci c_NO_SUCH rfl) pa_nil)))) pss_nil)
      (pss_cons (ps_if (pt_truth (pe_g g_has_lost (hr.mono (by decide)) rfl (pa_cons (pv 0) (pa_cons (pv 2) pa_nil))) (fun _ => rfl)) (pss_one (ps_ret (pe_lst (pa_cons (pe_ci c_NOT_LET rfl) pa_nil)))) pss_nil)
      (pss_cons (ps_set (i := 4) sc_mend.nd rfl (Or.inl rfl) (pe_lst pa_nil))
      (pss_cons (ps_for PassesOwn.never rfl (pi_list (pv 2)) (pg_name (i := 5) sc_mend.nd rfl (Or.inl rfl)) (pss_one (ps_expr (pe_bm PySem.F.plainAttrs_list PySem.F.slot_list_extend PySem.F.type_list_extend mt_extend (pv 4) (pa_cons (pe_g g_part_for (hr.mono (by decide)) rfl (pa_cons (pv 3) (pa_cons (pv 1) (pa_cons (pe_ix ix_list (pe_fld (pv 0) rfl) (pv 5) (fun _ _ => rfl)) pa_nil)))) pa_nil)))))
      (pss_cons (ps_set (i := 6) sc_mend.nd rfl (Or.inl rfl) (pe_g g_again (hr.mono (by decide)) rfl (pa_cons (pv 3) (pa_cons (pv 1) (pa_cons (pv 2) (pa_cons (pv 4) pa_nil))))))
      (pss_cons (ps_if (pt_cmpR op_lt (pe_ix ix_list (pv 6) pe_int (fun _ _ => rfl)) pe_int (nomark _)) (pss_one (ps_ret (pv 6))) pss_nil)
      (pss_cons (ps_asg (pe_slice sl_list (pv 6) (po_some pe_int) po_none) (pg_sub (pe_fld (pv 0) rfl) (pv 1) set_list))
      (pss_one (ps_ret (pe_lst (pa_cons pe_int pa_nil)))))))))))), ?_⟩
    refine ⟨_, rfl, p, CL, dx, _, _, rfl, hp, L.cl, L.nc, cluF_code _ _, ?_⟩
    refine ⟨_, rfl, _, rfl, z1L, fun l1 hl1 => ?_⟩
    have s1 : Same H (upd H l1 (.lst [nv n])) := .new hl1
    refine ⟨_, rfl, l1, q, _, _, rfl, rfl, upd_same, s1 _ _ hq, by rw [nvs_len]; show 1 + _ ≤ 2 ^ 24; omega, fun l2 hl2 => ?_⟩
    rw [nvs_cons]
    have s2 := s1.trans (.new (o := .lst (nvs (n :: l))) hl2)
    refine ⟨_, _, x.code, n :: l, rfl, hc.code.mono s2, ⟨l2, rfl, upd_same⟩, by rw [List.length_cons]; omega, fun H3 s3 => ?_⟩
    have s13 := s2.trans s3
    refine ⟨_, rfl, ite2 (fun h => ?_) (fun h => ?_)⟩
    · rw [show mendR x n l = (Sp.says (-1), x.nodes) from if_pos (not_f h)] at k
      exact ⟨z1L, fun l hl => (RM.same k hc).one s13 hl⟩
    have hlk := not_t h
    obtain ⟨o, hnn⟩ := looked_ok hlk
    have n9 := o.n9
    have hn := hnn n (by simp)
    have hll : ∀ f ∈ l, f < x.code.n := fun f hf => hnn f (List.mem_cons_of_mem _ hf)
    refine ⟨_, rfl, _, rfl, Bd, p, x, cv, ha, hv, _, l, rfl, hc.mono s13, ⟨q, rfl, s13 _ _ hq⟩, by omega, hll, fun H4 s4 => ?_⟩
    have s14 := s13.trans s4
    refine ⟨_, rfl, ite2 (fun h => ?_) (fun h => ?_)⟩
    · have e : mendR x n l = (Sp.says (-4), x.nodes) := (if_neg (by rw [hlk]; decide)).trans (if_pos (.inr h))
      rw [e] at k
      exact ⟨z1L, fun l hl => (RM.same k hc).one s14 hl⟩
    have hh := any_f h
    have hrow : ∀ f ∈ l, Shape x.code.d x.code.len (x.rows f) ∧ ∃ a, hv[f]? = some (.ref a) ∧ H a = some (.lst (bvs (x.rows f).flatten)) := fun f hf => by
      rcases hc.has (hll f hf) with ⟨_, h2, a, h3, h4⟩ | ⟨h1, _⟩
      · exact ⟨h2, a, h3, h4⟩
      · rw [hh f hf] at h1; cases h1
    have hS := fun f hf => (hrow f hf).1
    have hpl := part_len hS n
    have l64 := o.l64
    refine ⟨z0L, fun ra hra => ?_⟩
    have s5 := s14.trans (.new (o := .lst []) hra)
    refine ⟨_, rfl, q, rfl, ⟨_, SqL.of (s5 _ _ hq)⟩, ?_⟩
    refine for_list (xs := nvs l) (fun i σ H5 => ∃ r5, σ = [some (V.ref p), some (nv n), some (V.ref q), some cv, some (V.ref ra), r5, none] ∧ Same H4 H5 ∧ H5 ra = some (.lst (bvs ((l.take i).map fun h => x.code.part (x.rows h) n).flatten))) ?_ ?_ ?_ ?_
    · exact ⟨_, rfl, .new hra, upd_same⟩
    · rintro i σ H5 _ ⟨r5, rfl, s6, _⟩
      exact SqL.of (s6 _ _ (s14 _ _ hq))
    · rintro i y σ H5 e1 ⟨r5, rfl, s6, hra5⟩
      obtain ⟨h1, rfl⟩ := nvs_get e1
      have hm := Tld.getD_mem h1
      obtain ⟨hSf, a, h3, h4⟩ := hrow _ hm
      have s16 := s14.trans s6
      have hfl := map_flat_len (F := fun h => x.code.part (x.rows h) n) (L := x.code.len) (l := l.take i) fun f hf => hpl f (List.mem_of_mem_take hf)
      have hti : (l.take i).length ≤ 32768 := by rw [List.length_take]; omega
      have hmul : (l.take i).length * x.code.len ≤ 32768 * 64 := Nat.mul_le_mul hti l64
      refine ⟨_, rfl, .inl ⟨rfl, _, SqL.of hra5⟩, _, rfl, _, rfl, _, rfl, p, CL, dx, _, _, rfl, s16 _ _ hp, L.cl, L.nh, cluF_held _ _, _, rfl, ha, hv, _, _, rfl, rfl, SqL.of (s16 _ _ hc.held), at_of rfl h3, ?_⟩
      refine ⟨_, _, x.code, n, _, rfl, hc.code.mono s16, ⟨a, rfl, s16 _ _ h4⟩, o, by omega, by rw [Rw.flat_len hSf.2, hSf.1], fun H6 a6 s7 n6 e6 => ?_⟩
      rw [Rw.rowsOf_flat hSf, ← part_vAt hSf] at e6
      refine ⟨ra, a6, _, _, rfl, rfl, s7 _ _ hra5, e6, ?_, ?_⟩
      · rw [bvs_len, bvs_len, hfl, hpl _ hm]
        show _ ≤ 2 ^ 24
        omega
      · refine ⟨_, rfl, (s6.trans s7).upd hra, ?_⟩
        rw [upd_same, bvs_app, map_flat_snoc _ _ h1]
    · rintro σ H5 ⟨r5, rfl, s6, hra5⟩
      rw [nvs_len, List.take_length] at hra5
      have s16 := s14.trans s6
      refine ⟨_, rfl, _, rfl, _, rfl, _, rfl, _, _, _, x.code, n, l, _, rfl, hc.code.mono s16, ⟨q, rfl, s16 _ _ hq⟩, ⟨ra, rfl, hra5⟩, by omega, fun H7 a7 s7 n7 e7 b7 => ?_⟩
      have s17 := s16.trans s7
      rcases mend_cases hS hlk hh with ⟨z, hz, eA, eM⟩ | ⟨r, hr2, eA, eM⟩
      · rw [eM] at k
        rw [eA] at e7
        have e8 := e7
        rw [ans_says] at e7
        refine ⟨_, rfl, a7, _, _, _, rfl, rfl, SqL.of e7, atI_nat (j := 0) rfl, _, _, rfl, rfl, _, rfl, ?_⟩
        rw [decide_eq_true hz]
        exact iteT ⟨_, rfl, (RM.same k hc) H7 a7 s17 (s16.free n7) e8 (by rw [ans_says]; show 1 ≤ 4000; decide)⟩
      · rw [eM] at k
        rw [eA, ans_gives (by omega)] at e7
        have e7 : H7 a7 = some (.lst (V.int (x.code.d : Nat) :: bvs r.flatten)) := by rw [e7, ← ivs_bytes]; rfl
        refine ⟨_, rfl, a7, _, _, _, rfl, rfl, SqL.of e7, atI_nat (j := 0) rfl, _, _, rfl, rfl, _, rfl, ?_⟩
        rw [decide_eq_false (by omega)]
        refine iteF ?_
        refine ⟨_, rfl, _, rfl, a7, _, rfl, SqL.of e7, fun a8 h8 => ?_⟩
        have ec : cutV (V.int (x.code.d : Nat) :: bvs r.flatten) (some 1) none = bvs r.flatten := cut_lo _ 1
        rw [ec]
        have s8 := s17.trans (.new (o := .lst (bvs r.flatten)) h8)
        refine ⟨_, rfl, p, CL, dx, _, _, rfl, s8 _ _ hp, L.cl, L.nh, cluF_held _ _, _, rfl, ha, hv, _, n, rfl, rfl, s8 _ _ hc.held, ixN_nat (by rw [hc.nodes.hl]; exact hn), z1L, fun l9 hl9 => ?_⟩
        exact RM.set (n := some r) k hc hn s8 ⟨hr2, a8, rfl, upd_same, hc.fresh (Same.keep s17) h8⟩ hl9
theorem sc_edit : FnScope ["cluster", "i", "difference", "code", "nodes", "node"] ["cluster", "i", "difference"] (defScope (top 62)) := ⟨rfl, rfl, rfl, by decide +kernel, rfl, by decide +kernel, by decide +kernel⟩
def sp_edit (C CL : Addr) : L2.Sp := fun vs H Q _ => ∃ (Bd : Addr → Prop) (p : Addr) (x : Sp.Cluster) (cv : V) (ha : Addr) (hv : List V) (i : Nat) (y : V) (e : Sp.Bytes), vs = [.ref p, nv i, y] ∧ Clu Bd C CL H p x cv ha hv ∧ IsB H y e ∧ RM Bd C H Q ha x.code (editR x i e).1 (editR x i e).2
theorem ok_edit {f : Addr} {fd : FuncData} (F : Fun K "edit" "edit" (top 62) f fd) (cn : Cn mg) (B : Bi mg) (T : Cc K C) (L : Cl K CL) (g_document_rows : Gd P w K mg base 2 "document_rows" ["code"] (sp_document_rows C)) (g_nodes_left : Gd P w K mg base 1 "nodes_left" ["cluster"] (sp_nodes_left C CL))
    (g_changed_rows : Gd P w K mg base 4 "changed_rows" ["code", "node", "rows", "i", "difference"] (sp_changed_rows C)) :
    FnOk P w K mg base CX0 5 f fd ["cluster", "i", "difference"] (sp_edit C CL) := by
  refine F.ok sc_edit (fun vs H Q E h => ?_) (fun cdv A outer s H vs Q E hr h => ?_)
  · obtain ⟨Bd, p, x, cv, ha, hv, i, y, e, rfl, _⟩ := h
    rfl
  · obtain ⟨Bd, p, x, cv, ha, hv, i, y, e, rfl, hc, ⟨u, rfl, hu⟩, k⟩ := h
    have c_NOT_LET := cn.notLet
    have c_UNFIT := cn.unfit
    obtain ⟨dx, hp⟩ := hc.ins
    have o := hc.ok
    have n9 := o.n9
    obtain ⟨q, qx, rfl, hq⟩ := hc.code
    refine ⟨_, (pss_cons (ps_set (i := 3) sc_edit.nd rfl (Or.inl rfl) (pe_fld (pv 0) rfl))
      (pss_cons (ps_if (pt_cmpR op_ge (pv 1) (pe_g g_document_rows (hr.mono (by decide)) rfl (pa_cons (pv 3) pa_nil)) (nomark _)) (pss_one (ps_ret (pe_lst (pa_cons (pe_ci c_NOT_LET rfl) pa_nil)))) pss_nil)
      (pss_cons (ps_if (pt_cmpR op_ne (pe_callB call_len_seq rfl B.len PySem.boot_len (pa_cons (pv 2) pa_nil)) (pe_fld (pv 3) rfl) (nomark _)) (pss_one (ps_ret (pe_lst (pa_cons (pe_ci c_UNFIT rfl) pa_nil)))) pss_nil)
      (pss_cons (ps_set (i := 4) sc_edit.nd rfl (Or.inl rfl) (pe_g g_nodes_left (hr.mono (by decide)) rfl (pa_cons (pv 0) pa_nil)))
      (pss_cons (ps_for PassesOwn.never rfl (pi_list (pv 4)) (pg_name (i := 5) sc_edit.nd rfl (Or.inl rfl)) (pss_one (ps_asg (pe_g g_changed_rows (hr.mono (by decide)) rfl (pa_cons (pv 3) (pa_cons (pv 5) (pa_cons (pe_ix ix_list (pe_fld (pv 0) rfl) (pv 5) (fun _ _ => rfl)) (pa_cons (pv 1) (pa_cons (pv 2) pa_nil)))))) (pg_sub (pe_fld (pv 0) rfl) (pv 5) set_list))))
      (pss_one (ps_ret (pe_lst (pa_cons pe_int pa_nil))))))))), ?_⟩
    refine ⟨_, rfl, p, CL, dx, _, _, rfl, hp, L.cl, L.nc, cluF_code _ _, ?_⟩
    refine ⟨_, rfl, _, rfl, _, x.code, rfl, ⟨q, qx, rfl, hq⟩, o, _, _, rfl, rfl, _, rfl, ite2 (fun h => ?_) (fun h => ?_)⟩
    · have h := of_decide_eq_true h
      rw [show editR x i e = (Sp.says (-4), x.nodes) from if_pos (by omega)] at k
      exact ⟨z1L, fun l hl => (RM.same k hc).one (.refl _) hl⟩
    have hi : i < x.code.holds := by
      have : ¬ ((x.code.holds : Int) ≤ (i : Int)) := fun z => h (decide_eq_true z)
      omega
    have hi' : ¬ x.code.holds ≤ i := by omega
    refine ⟨_, rfl, u, _, rfl, .inl (SqL.of hu), _, rfl, q, C, qx, _, _, rfl, hq, T.cl, T.nw, codeF_w _, rfl, _, rfl, ite2 (fun h => ?_) (fun h => ?_)⟩
    · rw [bvs_len] at h
      rw [show editR x i e = (Sp.says (-5), x.nodes) from (if_neg hi').trans (if_pos (ne_int.mp h))] at k
      exact ⟨z1L, fun l hl => (RM.same k hc).one (.refl _) hl⟩
    rw [bvs_len] at h
    have he : e.length = x.code.len := Decidable.byContradiction fun z => h (ne_int.mpr z)
    have ek : editR x i e = (Sp.says 0, partly x i e x.living.length) := by
      rw [partly_all hc.nodes.nl]
      exact (if_neg hi').trans (if_neg fun z => z he)
    rw [ek] at k
    refine ⟨_, rfl, Bd, p, x, _, ha, hv, rfl, hc, fun H1 la s1 n1 e1 => ?_⟩
    refine ⟨_, rfl, la, rfl, ⟨_, SqL.of e1⟩, ?_⟩
    have hsoft := hc.nodes.soft o
    have hh1 := s1 _ _ hc.held
    refine for_list (xs := nvs x.living) (fun t σ H2 => ∃ r5 hv2, σ = [some (V.ref p), some (nv i), some (V.ref u), some (V.ref q), some (V.ref la), r5] ∧ Same (hid ha H1) (hid ha H2) ∧ H2 ha = some (.lst hv2) ∧ NodesAt Bd H2 x.code hv2 (partly x i e t)) ?_ ?_ ?_ ?_
    · exact ⟨_, hv, rfl, .refl _, hh1, by rw [partly_zero hc.nodes.nl]; exact hc.nodes.keep (Same.keep s1)⟩
    · rintro t σ H2 _ ⟨r5, hv2, rfl, s2, _⟩
      exact SqL.of (keep_hid hh1 hsoft s2 _ _ e1 (hard_nats _))
    · rintro t y σ H2 ey ⟨r5, hv2, rfl, s2, hh2, hn2⟩
      obtain ⟨ht, rfl⟩ := nvs_get ey
      have k2 := (Same.keep s1).trans (keep_hid hh1 hsoft s2)
      obtain ⟨hf, hhas⟩ := living_mem (Tld.getD_mem ht)
      have hna := hn2.at_ _ hf
      rw [partly_at hf] at hna
      have hat : x.nodes.getD (x.living.getD t 0) none = some (x.rows (x.living.getD t 0)) := by
        unfold Sp.Cluster.rows
        unfold Sp.Cluster.has Sp.Cluster.at_ at hhas
        unfold Sp.Cluster.at_
        obtain ⟨r, hr⟩ := Option.isSome_iff_exists.mp hhas
        rw [hr]
        rfl
      rw [hat, Option.map_some, if_neg (living_new ht)] at hna
      obtain ⟨hSf, a, h3, h4, _⟩ := hna
      refine ⟨_, rfl, _, rfl, _, rfl, p, CL, dx, _, _, rfl, k2 _ _ hp hard_ins, L.cl, L.nh, cluF_held _ _, _, rfl, ha, hv2, _, _, rfl, rfl, SqL.of hh2, at_of rfl h3, _, rfl, _, rfl, ?_⟩
      refine ⟨_, _, _, x.code, x.living.getD t 0, i, _, e, rfl, ⟨q, qx, rfl, k2 _ _ hq hard_ins⟩, ⟨a, rfl, h4⟩, ⟨u, rfl, k2 _ _ hu (hard_bytes _)⟩, o, by omega, hi, by rw [Rw.flat_len hSf.2, hSf.1], he, fun H3 a3 s3 n3 e3 => ?_⟩
      rw [Rw.rowsOf_flat hSf] at e3
      have hh3 := s3 _ _ hh2
      have hn3 := hn2.keep (Same.keep s3)
      obtain ⟨g1, g2, g3⟩ := set_step o hn3 hh3 hf (v := .ref a3) (nn := some (x.code.changed (x.living.getD t 0) (x.rows (x.living.getD t 0)) i e)) ⟨changed_shape o.kd hSf he, a3, rfl, e3, hc.fresh k2 n3⟩
      refine ⟨_, rfl, p, CL, dx, _, _, rfl, s3 _ _ (k2 _ _ hp hard_ins), L.cl, L.nh, cluF_held _ _, _, rfl, ha, hv2, _, x.living.getD t 0, rfl, rfl, hh3, ixN_nat (by rw [hn2.hl]; exact hf), ?_⟩
      refine ⟨_, _, rfl, (s2.trans (hid_mono s3)).trans g3, upd_same, ?_⟩
      rw [partly_succ ht]
      exact g2
    · rintro σ H2 ⟨r5, hv2, rfl, s2, hh2, hn2⟩
      rw [nvs_len] at hn2
      refine ⟨z1L, fun l hl => ?_⟩
      exact RM.fin k ((hid_mono s1).trans s2) hh2 hn2 hl
def RBd (Bd : Addr → Prop) (C CL : Addr) (H : Hp) (Q : VK) (ca : Addr) (cvs : List V) (x : V) (wh : Nat) (c : Sp.Code) (b : Sp.Bytes) : Prop :=
  if 1 < wh ∨ c.ok = false then RA H Q (Sp.says (-1)) else if b.length ≠ c.holds * c.len then RA H Q (Sp.says (-5)) else
    ∀ (H' : Hp) (l p ha : Addr) (hv : List V), Same (hid ca H) (hid ca H') → H l = none → H' l = some (.lst (ivs (ansI (Sp.says 0)))) → H' ca = some (.lst (cvs.set wh (.ref p))) → H ha = none → ha ≠ l →
      Clu Bd C CL H' p ⟨c, (List.range c.n).map fun (f : Nat) => some (c.rows (Sp.rowsOf c.len c.holds b) f)⟩ x ha hv → Q (.ref l) H'
theorem sc_build : FnScope ["clusters", "which", "code", "document", "square", "node"] ["clusters", "which", "code", "document"] (defScope (top 56)) := ⟨rfl, rfl, rfl, by decide +kernel, rfl, by decide +kernel, by decide +kernel⟩
def sp_build (C CL : Addr) : L2.Sp := fun vs H Q _ => ∃ (Bd : Addr → Prop) (ca : Addr) (cvs : List V) (wh : Nat) (x y : V) (c : Sp.Code) (b : Sp.Bytes), vs = [.ref ca, nv wh, x, y] ∧ H ca = some (.lst cvs) ∧ cvs.length = 2 ∧ Soft (.lst cvs) ∧ IsCode C H x c ∧ IsB H y b ∧ (∀ b, Bd b → ∃ o, H b = some o ∧ ¬ Soft o) ∧ RBd Bd C CL H Q ca cvs x wh c b
theorem ok_build {f : Addr} {fd : FuncData} (F : Fun K "build" "build" (top 56) f fd) (cn : Cn mg) (B : Bi mg) (T : Cc K C) (L : Cl K CL) (k_Cluster : Kd P w K mg base "Cluster" CL ["self", "code", "held"] (sp_Cluster CL)) (g_is_code : Gd P w K mg base 1 "is_code" ["code"] (sp_is_code C))
    (g_document_bytes : Gd P w K mg base 3 "document_bytes" ["code"] (sp_document_bytes C)) (g_rows_of_node : Gd P w K mg base 3 "rows_of_node" ["square", "node"] sp_rows_of_node) (g_square_of : Gd P w K mg base 2 "square_of" ["code", "document"] (sp_square_of C)) :
    FnOk P w K mg base CX0 4 f fd ["clusters", "which", "code", "document"] (sp_build C CL) := by
  refine F.ok sc_build (fun vs H Q E h => ?_) (fun cdv A outer s H vs Q E hr h => ?_)
  · obtain ⟨Bd, ca, cvs, wh, x, y, c, b, rfl, _⟩ := h
    rfl
  · obtain ⟨Bd, ca, cvs, wh, x, y, c, b, rfl, hca, hcl, hsoft, hx, ⟨u, rfl, hu⟩, hbd, k⟩ := h
    have c_NO_SUCH := cn.noSuch
    have c_UNFIT := cn.unfit
    unfold RBd at k
    refine ⟨_, (pss_cons (ps_if (PW.pt (pw_or (pt_cmpR op_ge (pv 1) (pe_callB call_len_seq rfl B.len PySem.boot_len (pa_cons (pv 0) pa_nil)) (nomark _)) (pw_or1 (pt_not (pt_truth (pe_g g_is_code (hr.mono (by decide)) rfl (pa_cons (pv 2) pa_nil)) (fun _ => rfl)))))) (pss_one (ps_ret (pe_lst (pa_cons (pe_ci c_NO_SUCH rfl) pa_nil)))) pss_nil)
      (pss_cons (ps_if (pt_cmpR op_ne (pe_callB call_len_seq rfl B.len PySem.boot_len (pa_cons (pv 3) pa_nil)) (pe_g g_document_bytes (hr.mono (by decide)) rfl (pa_cons (pv 2) pa_nil)) (nomark _)) (pss_one (ps_ret (pe_lst (pa_cons (pe_ci c_UNFIT rfl) pa_nil)))) pss_nil)
      (pss_cons (ps_set (i := 4) sc_build.nd rfl (Or.inr rfl) (pe_g g_square_of (hr.mono (by decide)) rfl (pa_cons (pv 2) (pa_cons (pv 3) pa_nil))))
      (pss_cons (ps_asg (pe_mk k_Cluster (hr.mono (by decide)) rfl (pa_cons (pv 2) (pa_cons (pe_lc (g := (gName 5)) (te := (tCall sp_rows_of_node [] E0 (tCons (tVar 4) (tCons (tVar 5) tNil)))) (own := [("node", 5)]) rfl sc_build.nd (pi_range1 rfl B.range (pa_cons (pe_fld (pv 2) rfl) pa_nil)) (blkOk_by (by rfl)) (fun s H C cl fp => (pg_name (i := 5) sc_build.nd rfl (Or.inl rfl) (Or.inr rfl))) (fun s H C cl fp => pts_nil) (fun s H C cl fp => (pe_g g_rows_of_node (hr.mono (by decide)) rfl (pa_cons (pv 4) (pa_cons (pv 5) pa_nil))))) pa_nil))) (pg_sub (pv 0) (pv 1) set_list))
      (pss_one (ps_ret (pe_lst (pa_cons pe_int pa_nil)))))))), ?_⟩
    have bad : (1 < wh ∨ c.ok = false) → (1 ≤ sizeLine ∧ ∀ l, H l = none → Q (.ref l) (upd H l (.lst [V.int (-1)]))) := fun h => by
      rw [if_pos h] at k
      exact ⟨z1L, fun l hl => k.one (.refl _) hl⟩
    refine ⟨_, rfl, _, rfl, ca, _, rfl, .inl (SqL.of hca), _, _, rfl, rfl, _, rfl, ite2 (fun h => ?_) (fun h => ?_)⟩
    · have h := of_decide_eq_true h
      exact iteT (bad (.inl (by omega)))
    have hw : wh < 2 := by
      have : ¬ ((cvs.length : Int) ≤ (wh : Int)) := fun z => h (decide_eq_true z)
      omega
    refine ⟨_, rfl, _, c, rfl, hx, _, rfl, ite2 (fun h => ?_) (fun h => ?_)⟩
    · exact bad (.inr (not_f h))
    have hok := not_t h
    have o := (ok_iff c).mp hok
    have n9 := o.n9
    have d6 := o.d6
    have hdl := d_len_le o
    have nbad : ¬ (1 < wh ∨ c.ok = false) := fun z => z.elim (fun z => by omega) (fun z => by rw [hok] at z; cases z)
    rw [if_neg nbad] at k
    refine ⟨_, rfl, u, _, rfl, .inl (SqL.of hu), _, rfl, _, c, rfl, hx, o, rfl, _, rfl, ite2 (fun h => ?_) (fun h => ?_)⟩
    · rw [bvs_len] at h
      rw [if_pos (ne_int.mp h)] at k
      exact ⟨z1L, fun l hl => k.one (.refl _) hl⟩
    rw [bvs_len] at h
    have hb : b.length = c.holds * c.len := Decidable.byContradiction fun e => h (ne_int.mpr e)
    rw [if_neg (fun e => e hb)] at k
    have hS := square_shape o hb
    refine ⟨_, rfl, _, rfl, _, _, c, b, rfl, hx, ⟨u, rfl, hu⟩, o, hb, fun H1 v1 s1 hsq => ?_⟩
    obtain ⟨q, qx, rfl, hq⟩ := hx
    refine ⟨_, rfl, _, rfl, q, C, qx, _, _, rfl, s1 _ _ hq, T.cl, T.nn, codeF_n _, _, rfl, by omega, by omega, fun D hD => ?_⟩
    refine lc_range (n := c.n) (Acc H1 D (RowNew H1 fun j => (c.rows (Sp.rowsOf c.len c.holds b) j).flatten)) (Acc.start hD) (fun j H2 hj z => ?_) (fun H2 z => ?_)
    · refine ⟨rfl, _, rfl, _, rfl, _, _, j, c.d * c.len, ?_, hsq.mono z.same, by rw [hS.1]; have := o.k1; have := o.kd; omega, hS.2, by omega, by omega, fun H3 a3 s3 n3 e3 => ?_⟩
      · show [v1, V.int (0 + (j : Int))] = [v1, nv j]
        rw [Int.zero_add]
        rfl
      · rw [Tld.node_flat o.kd (Rw.rowsOf_shape hb)] at e3
        exact acc_pushR hD z s3 n3 e3 (by omega)
    obtain ⟨ys, g1, g2⟩ := acc_rows hD z
    have s2 := s1.trans z.same
    intro cp cdx ncp ncdx nex
    refine ⟨cp, cdx, _, _, rfl, upd_same, rfl, ?_⟩
    rw [upd_upd]
    have s3 : Same H2 (upd (upd H2 cdx (.own cp)) cp (.ins CL cdx (cluF (.ref q) (.ref D)))) := (Same.new ncdx).trans (.new (by rw [upd_ne (Ne.symm nex)]; exact ncp))
    refine ⟨_, rfl, _, rfl, ca, cvs, _, wh, rfl, rfl, s3 _ _ (s2 _ _ hca), ixN_nat (by omega), z1L, fun l hl => ?_⟩
    have hD2 := s3 _ _ g1
    have hDca : D ≠ ca := fun z => by rw [z, s1 _ _ hca] at hD; cases hD
    have hcp3 : (upd (upd H2 cdx (.own cp)) cp (.ins CL cdx (cluF (.ref q) (.ref D)))) cp = some (.ins CL cdx (cluF (.ref q) (.ref D))) := upd_same
    have hca3 := s3 _ _ (s2 _ _ hca)
    have hq3 := s3 _ _ (s2 _ _ hq)
    have hnew : ∀ (i : Nat) (a : Addr), ys[i]? = some (.ref a) → H1 a = none := fun i a e => by
      have hi : i < ((List.range c.n).map fun j => (c.rows (Sp.rowsOf c.len c.holds b) j).flatten).length := by rw [← g2.1]; exact (List.getElem?_eq_some_iff.mp e).1
      obtain ⟨a', e1, e2⟩ := g2.get hi
      rw [e] at e1
      cases e1
      exact (nw_of e2).1
    have hrow3 : AllB (upd (upd H2 cdx (.own cp)) cp (.ins CL cdx (cluF (.ref q) (.ref D)))) ys ((List.range c.n).map fun j => (c.rows (Sp.rowsOf c.len c.holds b) j).flatten) := g2.mono fun b o e => s3 _ _ (hid_same _ _ _ _ (nw_same _ _ _ _ e))
    have s03 := s2.trans s3
    generalize (upd (upd H2 cdx (.own cp)) cp (.ins CL cdx (cluF (.ref q) (.ref D)))) = H3 at s3 hl hD2 hcp3 hca3 hq3 hrow3 s03 ⊢
    have hs4 : Same (hid ca H3) (hid ca (upd H3 ca (.lst (cvs.set wh (.ref cp))))) := by rw [hid_upd]; exact .refl _
    have k4 := keep_hid hca3 hsoft hs4
    have s5 : Same (upd H3 ca (.lst (cvs.set wh (.ref cp)))) (upd (upd H3 ca (.lst (cvs.set wh (.ref cp)))) l (.lst [V.int 0])) := .new hl
    have hlca : l ≠ ca := fun z => by rw [z, upd_same] at hl; cases hl
    have hl3 : H3 l = none := by rw [upd_ne hlca] at hl; exact hl
    have k5 := k4.trans (Same.keep s5)
    have hD5 : (upd (upd H3 ca (.lst (cvs.set wh (.ref cp)))) l (.lst [V.int 0])) D = some (.lst ys) := s5 _ _ (by rw [upd_ne hDca]; exact hD2)
    refine k _ l cp D ys (((hid_mono s03).trans hs4).trans (hid_mono s5)) (s03.free hl3) (by rw [upd_same, ans_says]; rfl) (s5 _ _ upd_same) (s1.free hD) (ne_of_none hD2 hl3) ?_
    refine ⟨⟨cdx, k5 _ _ hcp3 hard_ins⟩, ⟨q, qx, rfl, k5 _ _ hq3 hard_ins⟩, o, hD5, ⟨by rw [hrow3.1]; simp, by simp, fun i hi => ?_⟩, fun b hb => let ⟨u, e, n⟩ := hbd b hb; ⟨u, k5 _ _ (s03 _ _ e) n, n⟩⟩
    rw [Rw.getD_range _ _ hi]
    obtain ⟨a, e1, e2⟩ := hrow3.get (i := i) (by simpa using hi)
    rw [range_getD hi] at e2
    refine ⟨Tld.rows_shape o.kd (Rw.rowsOf_shape hb) i, a, e1, k5 _ _ e2 (hard_bytes _), fun hba => ?_⟩
    obtain ⟨u, hu1, _⟩ := hbd a hba
    have := s1 _ _ hu1
    rw [hnew i a e1] at this
    cases this
end
end Sn
end
section
set_option maxHeartbeats 4000000
namespace Sn
open PySem PySem.Spec PyProof.Rows L2
open Tld (Ok)
theorem row_inv {l x s : List Int} (h : PyFlat.row l = some (x, s)) : ∃ (n : Nat) (r : List Int), l = (n : Int) :: r ∧ n ≤ r.length ∧ x = r.take n ∧ s = r.drop n := by
  cases l with
  | nil => cases h
  | cons z r =>
    have h : (if 0 ≤ z ∧ z.toNat ≤ r.length then some (r.take z.toNat, r.drop z.toNat) else none) = some (x, s) := h
    split at h
    · rename_i hz
      cases h
      exact ⟨z.toNat, r, by rw [Int.toNat_of_nonneg hz.1], hz.2, rfl, rfl⟩
    · cases h
theorem rows_inv {k : Nat} {l t : List Int} {xs : List (List Int)} (h : PyFlat.rows (k + 1) l = some (xs, t)) : ∃ x s xs', PyFlat.row l = some (x, s) ∧ PyFlat.rows k s = some (xs', t) ∧ xs = x :: xs' := by
  unfold PyFlat.rows at h
  split at h
  · cases h
  · rename_i x s e
    split at h
    · cases h
    · rename_i xs' t' e2
      cases h
      exact ⟨x, s, xs', e, e2, rfl⟩
theorem rows_len : ∀ {k : Nat} {l t : List Int} {xs : List (List Int)}, PyFlat.rows k l = some (xs, t) → xs.length = k
  | 0, l, t, xs, h => by cases h; rfl
  | k + 1, l, t, xs, h => by
    obtain ⟨x, s, xs', _, h2, rfl⟩ := rows_inv h
    rw [List.length_cons, rows_len h2]
def SHP : List (Nat × Nat) := [(4, 0), (5, 1), (4, 2), (5, 1), (5, 2), (6, 2), (6, 2), (4, 2), (5, 1), (1, 0), (2, 0), (2, 0), (3, 1), (2, 1), (2, 1), (1, 1), (1, 0)]
theorem shape_inv {p : Int} {nk : Nat × Nat} (h : PyWrswsp.shape p = some nk) : ∃ i : Nat, p = (i : Int) ∧ i < 17 ∧ nk = SHP.getD i (0, 0) := by
  unfold PyWrswsp.shape at h
  by_cases h0 : p = 0; · rw [if_pos h0] at h; cases h; exact ⟨0, h0, by decide, rfl⟩
  rw [if_neg h0] at h
  by_cases h1 : p = 1; · rw [if_pos h1] at h; cases h; exact ⟨1, h1, by decide, rfl⟩
  rw [if_neg h1] at h
  by_cases h2 : p = 2; · rw [if_pos h2] at h; cases h; exact ⟨2, h2, by decide, rfl⟩
  rw [if_neg h2] at h
  by_cases h3 : p = 3; · rw [if_pos h3] at h; cases h; exact ⟨3, h3, by decide, rfl⟩
  rw [if_neg h3] at h
  by_cases h4 : p = 4; · rw [if_pos h4] at h; cases h; exact ⟨4, h4, by decide, rfl⟩
  rw [if_neg h4] at h
  by_cases h5 : p = 5; · rw [if_pos h5] at h; cases h; exact ⟨5, h5, by decide, rfl⟩
  rw [if_neg h5] at h
  by_cases h6 : p = 6; · rw [if_pos h6] at h; cases h; exact ⟨6, h6, by decide, rfl⟩
  rw [if_neg h6] at h
  by_cases h7 : p = 7; · rw [if_pos h7] at h; cases h; exact ⟨7, h7, by decide, rfl⟩
  rw [if_neg h7] at h
  by_cases h8 : p = 8; · rw [if_pos h8] at h; cases h; exact ⟨8, h8, by decide, rfl⟩
  rw [if_neg h8] at h
  by_cases h9 : p = 9; · rw [if_pos h9] at h; cases h; exact ⟨9, h9, by decide, rfl⟩
  rw [if_neg h9] at h
  by_cases h10 : p = 10; · rw [if_pos h10] at h; cases h; exact ⟨10, h10, by decide, rfl⟩
  rw [if_neg h10] at h
  by_cases h11 : p = 11; · rw [if_pos h11] at h; cases h; exact ⟨11, h11, by decide, rfl⟩
  rw [if_neg h11] at h
  by_cases h12 : p = 12; · rw [if_pos h12] at h; cases h; exact ⟨12, h12, by decide, rfl⟩
  rw [if_neg h12] at h
  by_cases h13 : p = 13; · rw [if_pos h13] at h; cases h; exact ⟨13, h13, by decide, rfl⟩
  rw [if_neg h13] at h
  by_cases h14 : p = 14; · rw [if_pos h14] at h; cases h; exact ⟨14, h14, by decide, rfl⟩
  rw [if_neg h14] at h
  by_cases h15 : p = 15; · rw [if_pos h15] at h; cases h; exact ⟨15, h15, by decide, rfl⟩
  rw [if_neg h15] at h
  by_cases h16 : p = 16; · rw [if_pos h16] at h; cases h; exact ⟨16, h16, by decide, rfl⟩
  rw [if_neg h16] at h
  cases h
structure Sh (K : PySem.W.Frag) (mg : Str → Option Value) (aS : Addr) (as : Nat → Addr) : Prop where
  mS : mg "SHAPES" = some (.ref aS)
  sS : ∀ H : Hp, SqT K H aS ((List.range 17).map fun i => V.ref (as i))
  sI : ∀ i, i < 17 → ∀ H : Hp, SqT K H (as i) [nv (SHP.getD i (0, 0)).1, nv (SHP.getD i (0, 0)).2]
theorem ivs_drop (l : List Int) (n : Nat) : (ivs l).drop n = ivs (l.drop n) := by unfold ivs; rw [List.map_drop]
theorem ivs_take (l : List Int) (n : Nat) : (ivs l).take n = ivs (l.take n) := by unfold ivs; rw [List.map_take]
theorem ivs_len (l : List Int) : (ivs l).length = l.length := by unfold ivs; simp
theorem ivs_at {l : List Int} {i : Nat} {z : Int} (h : l[i]? = some z) : (ivs l)[i]? = some (.int z) := by unfold ivs; rw [List.getElem?_map, h]; rfl
theorem drop_inv {l r : List Int} {j : Nat} {p : Int} (h : l.drop j = p :: r) : l[j]? = some p ∧ l.drop (j + 1) = r ∧ j < l.length := by
  have hl : j < l.length := Nat.lt_of_not_le fun e => by rw [List.drop_eq_nil_of_le e] at h; cases h
  rw [List.drop_eq_getElem_cons hl] at h
  injection h with h1 h2
  exact ⟨by rw [List.getElem?_eq_getElem hl, h1], h2, hl⟩
section
variable {P : Program} {w : World} {K : PySem.W.Frag} {mg : Str → Option Value} {base : Heap} {C CL CA a_SHAPES : Addr} {as : Nat → Addr}
theorem sc_call_at : FnScope ["calls", "start", "number", "shape", "end", "whole", "lists", "turn", "first"] ["calls", "start"] (defScope (top 68)) := ⟨rfl, rfl, rfl, by decide +kernel, rfl, by decide +kernel, by decide +kernel⟩
def sp_call_at (K : PySem.W.Frag) (CA : Addr) : L2.Sp := fun vs H Q _ => ∃ (a : Addr) (ls : List Int) (j : Nat) (p : Int) (r : List Int) (n k : Nat) (xs : List (List Int)) (t : List Int), vs = [.ref a, nv j] ∧ SqL K H a (ivs ls) ∧ ls.drop j = p :: r ∧ PyWrswsp.shape p = some (n, k) ∧ n ≤ r.length ∧ PyFlat.rows k (r.drop n) = some (xs, t) ∧ ls.length ≤ 65536 ∧
  ∀ (H' : Hp) (q dx wa la : Addr) (lvs : List V) (e : Nat), Same H H' → H' q = some (.ins CA dx (callF (.int p) (.ref wa) (.ref la) (nv e))) → H' wa = some (.lst (ivs (r.take n))) → H' la = some (.lst lvs) → lvs.length = xs.length → (∀ i v, lvs[i]? = some v → ∃ b, v = .ref b ∧ H' b = some (.lst (ivs (xs.getD i [])))) →
    ls.drop e = t → e ≤ ls.length → j < e → Q (.ref q) H'
theorem ok_call_at {f : Addr} {fd : FuncData} (F : Fun K "call_at" "call_at" (top 68) f fd) (B : Bi mg) (S : Sh K mg a_SHAPES as) (k_Call : Kd P w K mg base "Call" CA ["self", "number", "whole", "lists", "end"] (sp_Call CA)) :
    FnOk P w K mg base CX0 3 f fd ["calls", "start"] (sp_call_at K CA) := by
  refine F.ok sc_call_at (fun vs H Q E h => ?_) (fun cdv A outer s H vs Q E hr h => ?_)
  · obtain ⟨a, ls, j, p, r, n, k, xs, t, rfl, _⟩ := h
    rfl
  · obtain ⟨a, ls, j, p, r, n, k, xs, t, rfl, hS, hd, hsh, hn, hro, hl, q⟩ := h
    have m_SHAPES := S.mS
    obtain ⟨i, hp, hi, hnk⟩ := shape_inv hsh
    have hn' : (SHP.getD i (0, 0)).1 = n := by rw [← hnk]
    have hk' : (SHP.getD i (0, 0)).2 = k := by rw [← hnk]
    have hsI := S.sI i hi
    rw [hn', hk'] at hsI
    obtain ⟨hj0, hj1, hj2⟩ := drop_inv hd
    have hrl : r.length = ls.length - (j + 1) := by rw [← hj1, List.length_drop]
    have hxl := rows_len hro
    have hk2 : k ≤ 2 := by
      have : ∀ i, i < 17 → (SHP.getD i (0, 0)).2 ≤ 2 := by decide
      rw [← hk']
      exact this i hi
    refine ⟨_, (pss_cons (ps_set (i := 2) sc_call_at.nd rfl (Or.inl rfl) (pe_ix ix_list (pv 0) (pv 1) (fun _ _ => rfl)))
      (pss_cons (ps_set (i := 3) sc_call_at.nd rfl (Or.inl rfl) (pe_ix ix_tup (pe_gr rfl m_SHAPES) (pv 2) (fun _ _ => rfl)))
      (pss_cons (ps_set (i := 4) sc_call_at.nd rfl (Or.inl rfl) (pe_op op_add (pe_op op_add (pv 1) pe_int) (pe_ix ix_tup (pv 3) pe_int (fun _ _ => rfl))))
      (pss_cons (ps_set (i := 5) sc_call_at.nd rfl (Or.inl rfl) (pe_slice sl_list (pv 0) (po_some (pe_op op_add (pv 1) pe_int)) (po_some (pv 4))))
      (pss_cons (ps_set (i := 6) sc_call_at.nd rfl (Or.inl rfl) (pe_lst pa_nil))
      (pss_cons (ps_for PassesOwn.never rfl (pi_range1 rfl B.range (pa_cons (pe_ix ix_tup (pv 3) pe_int (fun _ _ => rfl)) pa_nil)) (pg_name (i := 7) sc_call_at.nd rfl (Or.inl rfl)) (pss_cons (ps_set (i := 8) sc_call_at.nd rfl (Or.inl rfl) (pe_op op_add (pv 4) pe_int))
      (pss_cons (ps_set (i := 4) sc_call_at.nd rfl (Or.inl rfl) (pe_op op_add (pv 8) (pe_ix ix_list (pv 0) (pv 4) (fun _ _ => rfl))))
      (pss_one (ps_expr (pe_bm PySem.F.plainAttrs_list PySem.F.slot_list_append PySem.F.type_list_append mt_append (pv 6) (pa_cons (pe_slice sl_list (pv 0) (po_some (pv 8)) (po_some (pv 4))) pa_nil)))))))
      (pss_one (ps_ret (pe_mk k_Call (hr.mono (by decide)) rfl (pa_cons (pv 2) (pa_cons (pv 5) (pa_cons (pv 6) (pa_cons (pv 4) pa_nil))))))))))))), ?_⟩
    refine ⟨_, rfl, _, rfl, a, _, _, V.int p, rfl, rfl, hS, at_of rfl (ivs_at hj0), ?_⟩
    refine ⟨_, rfl, a_SHAPES, _, _, V.ref (as i), rfl, rfl, S.sS _, at_of hp (by rw [List.getElem?_map, List.getElem?_range hi]; rfl), ?_⟩
    refine ⟨_, rfl, _, _, rfl, rfl, _, rfl, as i, _, _, nv n, rfl, rfl, hsI _, atI_nat (j := 0) rfl, _, _, rfl, rfl, ?_⟩
    dsimp only
    rw [show ((j : Int) + 1 + (n : Int)) = ((j + 1 + n : Nat) : Int) by omega]
    refine ⟨_, rfl, _, rfl, _, _, rfl, rfl, _, rfl, _, rfl, _, rfl, a, _, rfl, hS, fun wa hwa => ?_⟩
    have ec : cutV (ivs ls) (some ((j : Int) + 1)) (some ((j + 1 + n : Nat) : Int)) = ivs (r.take n) := by
      rw [show ((j : Int) + 1) = ((j + 1 : Nat) : Int) by omega, cut_both _ (by omega), ivs_drop, ivs_take, hj1, Nat.add_sub_cancel_left]
    rw [ec]
    have s1 : Same H (upd H wa (.lst (ivs (r.take n)))) := .new hwa
    refine ⟨z0L, fun la hla => ?_⟩
    refine ⟨_, rfl, as i, _, _, nv k, rfl, rfl, hsI _, atI_nat (j := 1) rfl, _, rfl, by omega, by omega, ?_⟩
    refine for_range (n := k) (fun i2 σ H2 => ∃ e r7 r8, σ = [some (V.ref a), some (nv j), some (V.int p), some (V.ref (as i)), some (nv e), some (V.ref wa), some (V.ref la), r7, r8] ∧
      Acc (upd H wa (.lst (ivs (r.take n)))) la (fun i y G => ∃ b, y = .ref b ∧ G b = some (.lst (ivs (xs.getD i [])))) i2 H2 ∧ i2 ≤ k ∧ PyFlat.rows (k - i2) (ls.drop e) = some (xs.drop i2, t) ∧ e ≤ ls.length ∧ j < e) ?_ ?_ ?_
    · refine ⟨j + 1 + n, _, _, rfl, Acc.start hla, Nat.zero_le _, ?_, by omega, by omega⟩
      rw [Nat.sub_zero, List.drop_zero, ← List.drop_drop, hj1]
      exact hro
    · rintro i2 σ H2 hi2 ⟨e, r7, r8, rfl, z, _, hro2, he, hje⟩
      rw [show k - i2 = (k - (i2 + 1)) + 1 by omega] at hro2
      obtain ⟨x, s2, xs', h1, h2, h3⟩ := rows_inv hro2
      obtain ⟨m, r2, h4, h5, h6, h7⟩ := row_inv h1
      obtain ⟨g0, g1, g2⟩ := drop_inv h4
      have hr2 : r2.length = ls.length - (e + 1) := by rw [← g1, List.length_drop]
      have hx : xs.getD i2 [] = x := by
        have : (xs.drop i2)[0]? = some x := by rw [h3]; rfl
        rw [List.getElem?_drop, Nat.add_zero] at this
        rw [List.getD_eq_getElem?_getD, this]
        rfl
      have hxs : xs.drop (i2 + 1) = xs' := by rw [← List.drop_drop, h3]; rfl
      have hSz := s1.seq hS
      have hSz2 := z.same.seq hSz
      refine ⟨_, rfl, _, _, rfl, rfl, ?_⟩
      dsimp only
      rw [show ((e : Int) + 1) = ((e + 1 : Nat) : Int) by omega]
      refine ⟨_, rfl, _, rfl, _, rfl, a, _, _, _, rfl, rfl, hSz2, at_of rfl (ivs_at g0), _, _, rfl, rfl, ?_⟩
      dsimp only
      rw [show (((e + 1 : Nat) : Int) + (m : Int)) = ((e + 1 + m : Nat) : Int) by omega]
      obtain ⟨ys, y1, y2, y3⟩ := z.ex
      refine ⟨_, rfl, .inl ⟨rfl, _, SqL.of y1⟩, _, rfl, _, rfl, _, rfl, _, rfl, _, rfl, a, _, rfl, hSz2, fun b hb => ?_⟩
      have ec2 : cutV (ivs ls) (some ((e + 1 : Nat) : Int)) (some ((e + 1 + m : Nat) : Int)) = ivs x := by
        rw [cut_both _ (by omega), ivs_drop, ivs_take, g1, Nat.add_sub_cancel_left, h6]
      rw [ec2]
      have nbl : b ≠ la := fun c => by rw [c, y1] at hb; cases hb
      obtain ⟨acc, a1, a2, a3⟩ := Acc.push (R := fun i y G => ∃ b, y = .ref b ∧ G b = some (.lst (ivs (xs.getD i [])))) (fun _ _ _ _ s ⟨b, e1, e2⟩ => ⟨b, e1, s _ _ e2⟩) hla z (.new hb) ⟨b, rfl, hid_at (by rw [upd_same, hx]) nbl⟩ (by omega)
      refine ⟨la, acc, _, rfl, rfl, a1, a2, e + 1 + m, _, _, rfl, a3, hi2, ?_, by omega, by omega⟩
      rw [← List.drop_drop, g1, ← h7, hxs]
      exact h2
    · rintro σ H2 ⟨e, r7, r8, rfl, z, _, hro2, he, hje⟩
      rw [Nat.sub_self] at hro2
      have ht : ls.drop e = t := by
        have := Option.some.inj hro2
        injection this
      obtain ⟨ys, y1, y2, y3⟩ := z.ex
      refine ⟨_, rfl, _, rfl, _, rfl, _, rfl, ?_⟩
      intro cp cdx ncp ncdx nex
      refine ⟨cp, cdx, _, _, _, _, rfl, upd_same, rfl, ?_⟩
      rw [upd_upd]
      have s3 : Same H2 (upd (upd H2 cdx (.own cp)) cp (.ins CA cdx (callF (.int p) (.ref wa) (.ref la) (nv e)))) := (Same.new ncdx).trans (.new (by rw [upd_ne (Ne.symm nex)]; exact ncp))
      refine q _ cp cdx wa la ys e ((s1.trans z.same).trans s3) upd_same (s3 _ _ (z.same _ _ upd_same)) (s3 _ _ y1) (by rw [y2, hxl]) (fun i v ev => ?_) ht he hje
      obtain ⟨b, e1, e2⟩ := y3 i v ev
      exact ⟨b, e1, s3 _ _ (hid_same _ _ _ _ e2)⟩
end
end Sn
end
section
set_option maxHeartbeats 2000000
namespace Sn
open PySem PySem.Spec PyProof.Rows L2
open Tld (Ok ok_iff)
open Gau (Shape)
def nI (l : List Nat) : List Int := l.map fun (n : Nat) => (n : Int)
inductive CC : Nat → List Nat → List (List Int) → Sp.Call → Prop
  | judge (k d n l : Nat) : CC 0 [k, d, n, l] [] (.judge ⟨k, d, n, l⟩)
  | store (k d n l f : Nat) (b : Sp.Bytes) : CC 1 [k, d, n, l, f] [Lines.toInts b] (.store ⟨k, d, n, l⟩ f b)
  | tell (k d n l : Nat) (m : List Nat) (b : Sp.Bytes) (h : m.length ≤ 32768) : CC 2 [k, d, n, l] [nI m, Lines.toInts b] (.tell ⟨k, d, n, l⟩ m b)
  | part (k d n l t : Nat) (b : Sp.Bytes) : CC 3 [k, d, n, l, t] [Lines.toInts b] (.part ⟨k, d, n, l⟩ b t)
  | again (k d n l f : Nat) (m : List Nat) (b : Sp.Bytes) (h : m.length ≤ 32768) : CC 4 [k, d, n, l, f] [nI m, Lines.toInts b] (.again ⟨k, d, n, l⟩ f m b)
  | agree (k d n l i j : Nat) (a b : Sp.Bytes) : CC 5 [k, d, n, l, i, j] [Lines.toInts a, Lines.toInts b] (.agree ⟨k, d, n, l⟩ i a j b)
  | change (k d n l f i : Nat) (a e : Sp.Bytes) : CC 6 [k, d, n, l, f, i] [Lines.toInts a, Lines.toInts e] (.change ⟨k, d, n, l⟩ f a i e)
  | wrong (k d n l : Nat) (m : List Nat) (b : Sp.Bytes) (h : m.length ≤ 32768) : CC 7 [k, d, n, l] [nI m, Lines.toInts b] (.wrong ⟨k, d, n, l⟩ m b)
  | build (o k d n l : Nat) (b : Sp.Bytes) : CC 8 [o, k, d, n, l] [Lines.toInts b] (.build o ⟨k, d, n, l⟩ b)
  | state (o : Nat) : CC 9 [o] [] (.state o)
  | node (o f : Nat) : CC 10 [o, f] [] (.node o f)
  | lose (o f : Nat) : CC 11 [o, f] [] (.lose o f)
  | spoil (o f j : Nat) (e : Sp.Bytes) : CC 12 [o, f, j] [Lines.toInts e] (.spoil o f j e)
  | mend (o f : Nat) (m : List Nat) (h : m.length ≤ 32768) : CC 13 [o, f] [nI m] (.mend o f m)
  | edit (o i : Nat) (e : Sp.Bytes) : CC 14 [o, i] [Lines.toInts e] (.edit o i e)
  | read (o : Nat) (m : List Nat) (h : m.length ≤ 32768) : CC 15 [o] [nI m] (.read o m)
  | look (o : Nat) : CC 16 [o] [] (.look o)
theorem nat_ge {z : Int} {b : Nat} (h : SpNeutral.natural z b = true) : 0 ≤ z ∧ z < 2 ^ b := by
  unfold SpNeutral.natural at h
  rw [Bool.and_eq_true, decide_eq_true_eq, decide_eq_true_eq] at h
  exact h
theorem bytes_back {l : List Int} (h : (l.all fun z => SpNeutral.natural z 8) = true) : Lines.toInts (Lines.ofBytes l) = l := by
  unfold Lines.toInts Lines.ofBytes
  rw [List.map_map]
  conv => rhs; rw [← List.map_id l]
  refine List.map_congr_left fun z hz => ?_
  have := nat_ge (List.all_eq_true.mp h z hz)
  have e : (UInt8.ofNat z.toNat).toNat = z.toNat := by
    rw [UInt8.toNat_ofNat']
    exact Nat.mod_eq_of_lt (by omega)
  show ((UInt8.ofNat z.toNat).toNat : Int) = z
  rw [e]
  omega
theorem nats_back {l : List Int} (h : (l.all fun z => SpNeutral.natural z 32) = true) : nI (Lines.nats l) = l := by
  unfold nI Lines.nats
  rw [List.map_map]
  conv => rhs; rw [← List.map_id l]
  refine List.map_congr_left fun z hz => ?_
  have := nat_ge (List.all_eq_true.mp h z hz)
  show ((z.toNat : Nat) : Int) = z
  omega
theorem one_back {z : Int} (h : SpNeutral.natural z 32 = true) : ((z.toNat : Nat) : Int) = z := by
  have := nat_ge h
  omega
theorem nats_len (l : List Int) : (Lines.nats l).length = l.length := by unfold Lines.nats; simp
theorem cc_of {p : Int} {r : List Int} {n k : Nat} {xs : List (List Int)} (hs : PyWrswsp.shape p = some (n, k)) (hw : r.length = n) (hx : xs.length = k) (hb : ∀ x ∈ xs, x.length ≤ 32768) (ha : SpNeutral.asked1 (PyWrswsp.whole ((p :: r) :: xs)) = true) :
    ∃ (i : Nat) (x : Sp.Call), p = (i : Int) ∧ PyWrswsp.whole ((p :: r) :: xs) = (p :: r) :: xs ∧ SpNeutral.callOf ((p :: r) :: xs) = some x ∧ nI (Lines.nats r) = r ∧ CC i (Lines.nats r) xs x := by
  obtain ⟨i, rfl, hi, hnk⟩ := shape_inv hs
  have hn : n = (SHP.getD i (0, 0)).1 := by rw [← hnk]
  have hk : k = (SHP.getD i (0, 0)).2 := by rw [← hnk]
  rw [hn] at hw
  rw [hk] at hx
  match i, hi, hw, hx, ha with
  | 0, _, hw, hx, ha =>
    match r, hw, xs, hx, ha with
    | [a, b, c, d], _, [], _, ha =>
      have ha : (SpNeutral.natural a 32 && SpNeutral.natural b 32 && SpNeutral.natural c 32 && SpNeutral.natural d 32) = true := ha
      simp only [Bool.and_eq_true] at ha
      obtain ⟨⟨⟨h1, h2⟩, h3⟩, h4⟩ := ha
      exact ⟨0, _, rfl, rfl, rfl, by unfold nI Lines.nats; simp only [List.map_cons, List.map_nil, one_back h1, one_back h2, one_back h3, one_back h4], .judge _ _ _ _⟩
  | 1, _, hw, hx, ha =>
    match r, hw, xs, hx, hb, ha with
    | [a, b, c, d, e], _, [u], _, hb, ha =>
      have ha : (SpNeutral.natural a 32 && SpNeutral.natural b 32 && SpNeutral.natural c 32 && SpNeutral.natural d 32 && SpNeutral.natural e 32 && u.all (fun (z : Int) => SpNeutral.natural z 8)) = true := ha
      simp only [Bool.and_eq_true] at ha
      obtain ⟨⟨⟨⟨⟨h1, h2⟩, h3⟩, h4⟩, h5⟩, h6⟩ := ha
      have := CC.store a.toNat b.toNat c.toNat d.toNat e.toNat (Lines.ofBytes u)
      rw [bytes_back h6] at this
      exact ⟨1, _, rfl, rfl, rfl, by unfold nI Lines.nats; simp only [List.map_cons, List.map_nil, one_back h1, one_back h2, one_back h3, one_back h4, one_back h5], this⟩
  | 2, _, hw, hx, ha =>
    match r, hw, xs, hx, hb, ha with
    | [a, b, c, d], _, [u, v], _, hb, ha =>
      have ha : (SpNeutral.natural a 32 && SpNeutral.natural b 32 && SpNeutral.natural c 32 && SpNeutral.natural d 32 && u.all (fun (z : Int) => SpNeutral.natural z 32) && v.all (fun (z : Int) => SpNeutral.natural z 8)) = true := ha
      simp only [Bool.and_eq_true] at ha
      obtain ⟨⟨⟨⟨⟨h1, h2⟩, h3⟩, h4⟩, h5⟩, h6⟩ := ha
      have := CC.tell a.toNat b.toNat c.toNat d.toNat (Lines.nats u) (Lines.ofBytes v) (by rw [nats_len]; exact hb u (by simp))
      rw [bytes_back h6, nats_back h5] at this
      exact ⟨2, _, rfl, rfl, rfl, by unfold nI Lines.nats; simp only [List.map_cons, List.map_nil, one_back h1, one_back h2, one_back h3, one_back h4], this⟩
  | 3, _, hw, hx, ha =>
    match r, hw, xs, hx, hb, ha with
    | [a, b, c, d, e], _, [u], _, hb, ha =>
      have ha : (SpNeutral.natural a 32 && SpNeutral.natural b 32 && SpNeutral.natural c 32 && SpNeutral.natural d 32 && u.all (fun (z : Int) => SpNeutral.natural z 8) && SpNeutral.natural e 32) = true := ha
      simp only [Bool.and_eq_true] at ha
      obtain ⟨⟨⟨⟨⟨h1, h2⟩, h3⟩, h4⟩, h6⟩, h5⟩ := ha
      have := CC.part a.toNat b.toNat c.toNat d.toNat e.toNat (Lines.ofBytes u)
      rw [bytes_back h6] at this
      exact ⟨3, _, rfl, rfl, rfl, by unfold nI Lines.nats; simp only [List.map_cons, List.map_nil, one_back h1, one_back h2, one_back h3, one_back h4, one_back h5], this⟩
  | 4, _, hw, hx, ha =>
    match r, hw, xs, hx, hb, ha with
    | [a, b, c, d, e], _, [u, v], _, hb, ha =>
      have ha : (SpNeutral.natural a 32 && SpNeutral.natural b 32 && SpNeutral.natural c 32 && SpNeutral.natural d 32 && SpNeutral.natural e 32 && u.all (fun (z : Int) => SpNeutral.natural z 32) && v.all (fun (z : Int) => SpNeutral.natural z 8)) = true := ha
      simp only [Bool.and_eq_true] at ha
      obtain ⟨⟨⟨⟨⟨⟨h1, h2⟩, h3⟩, h4⟩, h7⟩, h5⟩, h6⟩ := ha
      have := CC.again a.toNat b.toNat c.toNat d.toNat e.toNat (Lines.nats u) (Lines.ofBytes v) (by rw [nats_len]; exact hb u (by simp))
      rw [bytes_back h6, nats_back h5] at this
      exact ⟨4, _, rfl, rfl, rfl, by unfold nI Lines.nats; simp only [List.map_cons, List.map_nil, one_back h1, one_back h2, one_back h3, one_back h4, one_back h7], this⟩
  | 5, _, hw, hx, ha =>
    match r, hw, xs, hx, hb, ha with
    | [a, b, c, d, e, f], _, [u, v], _, hb, ha =>
      have ha : (SpNeutral.natural a 32 && SpNeutral.natural b 32 && SpNeutral.natural c 32 && SpNeutral.natural d 32 && SpNeutral.natural e 32 && u.all (fun (z : Int) => SpNeutral.natural z 8) && SpNeutral.natural f 32 && v.all (fun (z : Int) => SpNeutral.natural z 8)) = true := ha
      simp only [Bool.and_eq_true] at ha
      obtain ⟨⟨⟨⟨⟨⟨⟨h1, h2⟩, h3⟩, h4⟩, h7⟩, h5⟩, h8⟩, h6⟩ := ha
      have := CC.agree a.toNat b.toNat c.toNat d.toNat e.toNat f.toNat (Lines.ofBytes u) (Lines.ofBytes v)
      rw [bytes_back h6, bytes_back h5] at this
      exact ⟨5, _, rfl, rfl, rfl, by unfold nI Lines.nats; simp only [List.map_cons, List.map_nil, one_back h1, one_back h2, one_back h3, one_back h4, one_back h7, one_back h8], this⟩
  | 6, _, hw, hx, ha =>
    match r, hw, xs, hx, hb, ha with
    | [a, b, c, d, e, f], _, [u, v], _, hb, ha =>
      have ha : (SpNeutral.natural a 32 && SpNeutral.natural b 32 && SpNeutral.natural c 32 && SpNeutral.natural d 32 && SpNeutral.natural e 32 && u.all (fun (z : Int) => SpNeutral.natural z 8) && SpNeutral.natural f 32 && v.all (fun (z : Int) => SpNeutral.natural z 8)) = true := ha
      simp only [Bool.and_eq_true] at ha
      obtain ⟨⟨⟨⟨⟨⟨⟨h1, h2⟩, h3⟩, h4⟩, h7⟩, h5⟩, h8⟩, h6⟩ := ha
      have := CC.change a.toNat b.toNat c.toNat d.toNat e.toNat f.toNat (Lines.ofBytes u) (Lines.ofBytes v)
      rw [bytes_back h6, bytes_back h5] at this
      exact ⟨6, _, rfl, rfl, rfl, by unfold nI Lines.nats; simp only [List.map_cons, List.map_nil, one_back h1, one_back h2, one_back h3, one_back h4, one_back h7, one_back h8], this⟩
  | 7, _, hw, hx, ha =>
    match r, hw, xs, hx, hb, ha with
    | [a, b, c, d], _, [u, v], _, hb, ha =>
      have ha : (SpNeutral.natural a 32 && SpNeutral.natural b 32 && SpNeutral.natural c 32 && SpNeutral.natural d 32 && u.all (fun (z : Int) => SpNeutral.natural z 32) && v.all (fun (z : Int) => SpNeutral.natural z 8)) = true := ha
      simp only [Bool.and_eq_true] at ha
      obtain ⟨⟨⟨⟨⟨h1, h2⟩, h3⟩, h4⟩, h5⟩, h6⟩ := ha
      have := CC.wrong a.toNat b.toNat c.toNat d.toNat (Lines.nats u) (Lines.ofBytes v) (by rw [nats_len]; exact hb u (by simp))
      rw [bytes_back h6, nats_back h5] at this
      exact ⟨7, _, rfl, rfl, rfl, by unfold nI Lines.nats; simp only [List.map_cons, List.map_nil, one_back h1, one_back h2, one_back h3, one_back h4], this⟩
  | 8, _, hw, hx, ha =>
    match r, hw, xs, hx, hb, ha with
    | [a, b, c, d, e], _, [u], _, hb, ha =>
      have ha : (SpNeutral.natural a 32 && SpNeutral.natural b 32 && SpNeutral.natural c 32 && SpNeutral.natural d 32 && SpNeutral.natural e 32 && u.all (fun (z : Int) => SpNeutral.natural z 8)) = true := ha
      simp only [Bool.and_eq_true] at ha
      obtain ⟨⟨⟨⟨⟨h1, h2⟩, h3⟩, h4⟩, h5⟩, h6⟩ := ha
      have := CC.build a.toNat b.toNat c.toNat d.toNat e.toNat (Lines.ofBytes u)
      rw [bytes_back h6] at this
      exact ⟨8, _, rfl, rfl, rfl, by unfold nI Lines.nats; simp only [List.map_cons, List.map_nil, one_back h1, one_back h2, one_back h3, one_back h4, one_back h5], this⟩
  | 9, _, hw, hx, ha =>
    match r, hw, xs, hx, ha with
    | [a], _, [], _, ha =>
      have ha : SpNeutral.natural a 32 = true := ha
      exact ⟨9, _, rfl, rfl, rfl, by unfold nI Lines.nats; simp only [List.map_cons, List.map_nil, one_back ha], .state _⟩
  | 10, _, hw, hx, ha =>
    match r, hw, xs, hx, ha with
    | [a, b], _, [], _, ha =>
      have ha : (SpNeutral.natural a 32 && SpNeutral.natural b 32) = true := ha
      simp only [Bool.and_eq_true] at ha
      exact ⟨10, _, rfl, rfl, rfl, by unfold nI Lines.nats; simp only [List.map_cons, List.map_nil, one_back ha.1, one_back ha.2], .node _ _⟩
  | 11, _, hw, hx, ha =>
    match r, hw, xs, hx, ha with
    | [a, b], _, [], _, ha =>
      have ha : (SpNeutral.natural a 32 && SpNeutral.natural b 32) = true := ha
      simp only [Bool.and_eq_true] at ha
      exact ⟨11, _, rfl, rfl, rfl, by unfold nI Lines.nats; simp only [List.map_cons, List.map_nil, one_back ha.1, one_back ha.2], .lose _ _⟩
  | 12, _, hw, hx, ha =>
    match r, hw, xs, hx, hb, ha with
    | [a, b, c], _, [u], _, hb, ha =>
      have ha : (SpNeutral.natural a 32 && SpNeutral.natural b 32 && SpNeutral.natural c 32 && u.all (fun (z : Int) => SpNeutral.natural z 8)) = true := ha
      simp only [Bool.and_eq_true] at ha
      obtain ⟨⟨⟨h1, h2⟩, h3⟩, h6⟩ := ha
      have := CC.spoil a.toNat b.toNat c.toNat (Lines.ofBytes u)
      rw [bytes_back h6] at this
      exact ⟨12, _, rfl, rfl, rfl, by unfold nI Lines.nats; simp only [List.map_cons, List.map_nil, one_back h1, one_back h2, one_back h3], this⟩
  | 13, _, hw, hx, ha =>
    match r, hw, xs, hx, hb, ha with
    | [a, b], _, [u], _, hb, ha =>
      have ha : (SpNeutral.natural a 32 && SpNeutral.natural b 32 && u.all (fun (z : Int) => SpNeutral.natural z 32)) = true := ha
      simp only [Bool.and_eq_true] at ha
      obtain ⟨⟨h1, h2⟩, h6⟩ := ha
      have := CC.mend a.toNat b.toNat (Lines.nats u) (by rw [nats_len]; exact hb u (by simp))
      rw [nats_back h6] at this
      exact ⟨13, _, rfl, rfl, rfl, by unfold nI Lines.nats; simp only [List.map_cons, List.map_nil, one_back h1, one_back h2], this⟩
  | 14, _, hw, hx, ha =>
    match r, hw, xs, hx, hb, ha with
    | [a, b], _, [u], _, hb, ha =>
      have ha : (SpNeutral.natural a 32 && SpNeutral.natural b 32 && u.all (fun (z : Int) => SpNeutral.natural z 8)) = true := ha
      simp only [Bool.and_eq_true] at ha
      obtain ⟨⟨h1, h2⟩, h6⟩ := ha
      have := CC.edit a.toNat b.toNat (Lines.ofBytes u)
      rw [bytes_back h6] at this
      exact ⟨14, _, rfl, rfl, rfl, by unfold nI Lines.nats; simp only [List.map_cons, List.map_nil, one_back h1, one_back h2], this⟩
  | 15, _, hw, hx, ha =>
    match r, hw, xs, hx, hb, ha with
    | [a], _, [u], _, hb, ha =>
      have ha : (SpNeutral.natural a 32 && u.all (fun (z : Int) => SpNeutral.natural z 32)) = true := ha
      simp only [Bool.and_eq_true] at ha
      obtain ⟨h1, h6⟩ := ha
      have := CC.read a.toNat (Lines.nats u) (by rw [nats_len]; exact hb u (by simp))
      rw [nats_back h6] at this
      exact ⟨15, _, rfl, rfl, rfl, by unfold nI Lines.nats; simp only [List.map_cons, List.map_nil, one_back h1], this⟩
  | 16, _, hw, hx, ha =>
    match r, hw, xs, hx, ha with
    | [a], _, [], _, ha =>
      have ha : SpNeutral.natural a 32 = true := ha
      exact ⟨16, _, rfl, rfl, rfl, by unfold nI Lines.nats; simp only [List.map_cons, List.map_nil, one_back ha], .look _⟩
  | i + 17, hi, _, _, _ => omega
theorem step_ans {s : Sp.State} {c : List (List Int)} {x : Sp.Call} (h : SpNeutral.callOf c = some x) : SpNeutral.step s c = ((Sp.step s x).1, ansI (Sp.step s x).2) := by
  unfold SpNeutral.step
  rw [h]
  rfl
end Sn
end
section
set_option maxHeartbeats 2000000
namespace Sn
open PySem PySem.Spec PyProof.Rows L2
open Tld (Ok ok_iff)
open Gau (Shape)
variable {Bd : Addr → Prop}
def cluR (x : Sp.Cluster) : Sp.Call → Sp.Answer × List (Option (List Sp.Bytes))
  | .state _ => (Sp.tells 0 ([x.code.k, x.code.d, x.code.n, x.code.len] ++ x.living), x.nodes)
  | .node _ f => (if x.code.n ≤ f then Sp.says (-1) else match x.at_ f with
    | none => Sp.says (-4)
    | some r => Sp.gives 0 r.flatten, x.nodes)
  | .lose _ f => loseR x f
  | .spoil _ f j e => spoilR x f j e
  | .mend _ f l => mendR x f l
  | .edit _ i e => editR x i e
  | .read _ l => (readA x l, x.nodes)
  | .look _ => (lookA x, x.nodes)
  | _ => (Sp.says 0, x.nodes)
def objOf : Sp.Call → Option Nat
  | .state o => some o
  | .node o _ => some o
  | .lose o _ => some o
  | .spoil o _ _ _ => some o
  | .mend o _ _ => some o
  | .edit o _ _ => some o
  | .read o _ => some o
  | .look o => some o
  | _ => none
theorem set_self {s : Sp.State} {o : Nat} {x : Sp.Cluster} (h : s.getD o none = some x) : s.set o (some x) = s := by
  refine List.ext_getElem (by simp) fun i h1 h2 => ?_
  rw [List.getElem_set]
  split
  · rename_i e
    subst e
    rw [List.getD_eq_getElem?_getD, List.getElem?_eq_getElem h2] at h
    exact h.symm
  · rfl
theorem with_on {s : Sp.State} {o : Nat} {x : Sp.Cluster} (ho : o < 2) (hx : s.getD o none = some x) (f : Sp.Cluster → Sp.State × Sp.Answer) : Sp.withCluster s o f = f x := by
  unfold Sp.withCluster
  rw [if_neg (by omega), hx]
theorem with_none {s : Sp.State} {o : Nat} (ho : o < 2) (hx : s.getD o none = none) (f : Sp.Cluster → Sp.State × Sp.Answer) : Sp.withCluster s o f = (s, Sp.says (-3)) := by
  unfold Sp.withCluster
  rw [if_neg (by omega), hx]
theorem with_far {s : Sp.State} {o : Nat} (ho : 1 < o) (f : Sp.Cluster → Sp.State × Sp.Answer) : Sp.withCluster s o f = (s, Sp.says (-1)) := by
  unfold Sp.withCluster
  rw [if_pos ho]
theorem step_with {s : Sp.State} {c : Sp.Call} {o : Nat} (hc : objOf c = some o) : ∃ f, Sp.step s c = Sp.withCluster s o f := by
  cases c <;> first | (cases hc; exact ⟨_, rfl⟩) | cases hc
theorem step_clu {s : Sp.State} {c : Sp.Call} {o : Nat} {x : Sp.Cluster} (hc : objOf c = some o) (ho : o < 2) (hx : s.getD o none = some x) :
    Sp.step s c = (s.set o (some { x with nodes := (cluR x c).2 }), (cluR x c).1) := by
  have self : s.set o (some { x with nodes := x.nodes }) = s := set_self hx
  cases c with
  | state o' => cases hc; exact (with_on ho hx _).trans (by rw [show (cluR x (.state o)).2 = x.nodes from rfl, self]; rfl)
  | node o' f => cases hc; exact (with_on ho hx _).trans (by rw [show (cluR x (.node o f)).2 = x.nodes from rfl, self]; rfl)
  | read o' l => cases hc; exact (with_on ho hx _).trans (by rw [show (cluR x (.read o l)).2 = x.nodes from rfl, self]; rfl)
  | look o' => cases hc; exact (with_on ho hx _).trans (by rw [show (cluR x (.look o)).2 = x.nodes from rfl, self]; rfl)
  | lose o' f =>
    cases hc
    refine (with_on ho hx _).trans ?_
    show _ = (s.set o (some { x with nodes := (loseR x f).2 }), (loseR x f).1)
    unfold loseR
    by_cases h1 : x.code.n ≤ f
    · rw [if_pos h1, if_pos h1, self]
    rw [if_neg h1, if_neg h1]
    by_cases h2 : x.has f = false
    · rw [if_pos h2, if_pos h2, self]
    rw [if_neg h2, if_neg h2]
    rfl
  | spoil o' f j e =>
    cases hc
    refine (with_on ho hx _).trans ?_
    show _ = (s.set o (some { x with nodes := (spoilR x f j e).2 }), (spoilR x f j e).1)
    unfold spoilR
    by_cases h1 : x.code.n ≤ f ∨ x.code.d ≤ j
    · rw [if_pos h1, if_pos h1, self]
    rw [if_neg h1, if_neg h1]
    by_cases h2 : x.has f = false
    · rw [if_pos h2, if_pos h2, self]
    rw [if_neg h2, if_neg h2]
    by_cases h3 : e.length ≠ x.code.len
    · rw [if_pos h3, if_pos h3, self]
    rw [if_neg h3, if_neg h3]
    rfl
  | mend o' f l =>
    cases hc
    refine (with_on ho hx _).trans ?_
    show _ = (s.set o (some { x with nodes := (mendR x f l).2 }), (mendR x f l).1)
    unfold mendR
    by_cases h1 : Sp.looked x.code (f :: l) = false
    · rw [if_pos h1, if_pos h1, self]
    rw [if_neg h1, if_neg h1]
    by_cases h2 : l.contains f = true ∨ l.any (fun (h : Nat) => !x.has h) = true
    · rw [if_pos h2, if_pos h2, self]
    rw [if_neg h2, if_neg h2]
    by_cases h3 : Sp.rising l = false ∨ l.length < x.code.d
    · rw [if_pos h3, if_pos h3, self]
    rw [if_neg h3, if_neg h3]
    cases x.code.again l (fun (h : Nat) => x.code.part (x.rows h) f) with
    | none => show (s, _) = (s.set o (some { x with nodes := x.nodes }), _); rw [self]
    | some r => rfl
  | edit o' i e =>
    cases hc
    refine (with_on ho hx _).trans ?_
    show _ = (s.set o (some { x with nodes := (editR x i e).2 }), (editR x i e).1)
    unfold editR
    by_cases h1 : x.code.holds ≤ i
    · rw [if_pos h1, if_pos h1, self]
    rw [if_neg h1, if_neg h1]
    by_cases h3 : e.length ≠ x.code.len
    · rw [if_pos h3, if_pos h3, self]
    rw [if_neg h3, if_neg h3]
    rfl
  | _ => cases hc
def SlotAt (Bd : Addr → Prop) (C CL : Addr) (H : Hp) (ca : Addr) (v : Option V) (ha : Addr) : Option Sp.Cluster → Prop
  | none => v = some .non
  | some x => ∃ p cv hv, v = some (.ref p) ∧ Clu Bd C CL H p x cv ha hv ∧ ha ≠ ca
structure StateIn (Bd : Addr → Prop) (C CL : Addr) (H : Hp) (ca : Addr) (s : Sp.State) (cvs : List V) (hs : Nat → Addr) : Prop where
  lst : H ca = some (.lst cvs)
  len : cvs.length = 2
  sl : s.length = 2
  at_ : ∀ i, i < 2 → SlotAt Bd C CL H ca cvs[i]? (hs i) (s.getD i none)
  ne : ∀ i j, i < 2 → j < 2 → i ≠ j → (s.getD i none).isSome = true → (s.getD j none).isSome = true → hs i ≠ hs j
  bd : ∀ b, Bd b → ∃ o, H b = some o ∧ ¬ Soft o
def StateAt (Bd : Addr → Prop) (C CL : Addr) (H : Hp) (ca : Addr) (s : Sp.State) : Prop := ∃ cvs hs, StateIn Bd C CL H ca s cvs hs
theorem StateIn.soft {C CL : Addr} {H : Hp} {ca : Addr} {s : Sp.State} {cvs : List V} {hs : Nat → Addr} (h : StateIn Bd C CL H ca s cvs hs) : Soft (.lst cvs) := by
  have h0 := h.at_ 0 (by decide)
  have hl := h.len
  cases cvs with
  | nil => cases hl
  | cons v r =>
    refine ⟨v, r, rfl, fun n e => ?_⟩
    subst e
    cases q : s.getD 0 none with
    | none => rw [q] at h0; cases h0
    | some x => rw [q] at h0; obtain ⟨p, cv, hv, e, _⟩ := h0; cases e
theorem SlotAt.keep {C CL : Addr} {H H' : Hp} {ca : Addr} {v : Option V} {ha : Addr} {x : Option Sp.Cluster} (h : SlotAt Bd C CL H ca v ha x) (k : Keep H H') (hh : x.isSome = true → ∀ o, H ha = some o → H' ha = some o) : SlotAt Bd C CL H' ca v ha x := by
  cases x with
  | none => exact h
  | some x =>
    obtain ⟨p, cv, hv, e, hc, n⟩ := h
    exact ⟨p, cv, hv, e, hc.keep k (hh rfl _ hc.held), n⟩
theorem StateIn.mono {C CL : Addr} {H H' : Hp} {ca : Addr} {s : Sp.State} {cvs : List V} {hs : Nat → Addr} (h : StateIn Bd C CL H ca s cvs hs) (m : Same H H') : StateIn Bd C CL H' ca s cvs hs :=
  ⟨m _ _ h.lst, h.len, h.sl, fun i hi => (h.at_ i hi).keep (Same.keep m) fun _ o e => m _ _ e, h.ne, fun b hb => let ⟨o, e, n⟩ := h.bd b hb; ⟨o, m _ _ e, n⟩⟩
theorem StateAt.mono {C CL : Addr} {H H' : Hp} {ca : Addr} {s : Sp.State} (h : StateAt Bd C CL H ca s) (m : Same H H') : StateAt Bd C CL H' ca s := let ⟨cvs, hs, h⟩ := h; ⟨cvs, hs, h.mono m⟩
theorem getD_set' {s : Sp.State} (hs : s.length = 2) {o j : Nat} (ho : o < 2) {a : Option Sp.Cluster} : (s.set o a).getD j none = if j = o then a else s.getD j none := getD_set (by omega)
theorem StateIn.change {C CL : Addr} {H H' : Hp} {ca : Addr} {s : Sp.State} {cvs : List V} {hs : Nat → Addr} (h : StateIn Bd C CL H ca s cvs hs) {o : Nat} (ho : o < 2) {x : Sp.Cluster} (hx : s.getD o none = some x) {p : Addr} {cv : V} {hv : List V} (hp : cvs[o]? = some (.ref p)) (hc : Clu Bd C CL H p x cv (hs o) hv)
    (hne : hs o ≠ ca) (m : Same (hid (hs o) H) (hid (hs o) H')) {hv' : List V} (hh : H' (hs o) = some (.lst hv')) {nodes : List (Option (List Sp.Bytes))} (hn : NodesAt Bd H' x.code hv' nodes) : StateIn Bd C CL H' ca (s.set o (some { x with nodes := nodes })) cvs hs := by
  have k := keep_hid hc.held (hc.nodes.soft hc.ok) m
  have stay : ∀ b u, H b = some u → b ≠ hs o → H' b = some u := fun b u e n => hid_same _ _ _ _ (m _ _ (hid_at e n))
  refine ⟨stay _ _ h.lst hne.symm, h.len, by rw [List.length_set]; exact h.sl, fun i hi => ?_, fun i j hi hj hij h1 h2 => ?_, fun b hb => let ⟨o, e, n⟩ := h.bd b hb; ⟨o, k _ _ e n, n⟩⟩
  · rw [getD_set' h.sl ho]
    by_cases e : i = o
    · subst e
      rw [if_pos rfl]
      refine ⟨p, cv, hv', hp, ⟨?_, k.code hc.code, hc.ok, hh, hn, fun b hb => let ⟨o, e, n⟩ := hc.bd b hb; ⟨o, k _ _ e n, n⟩⟩, hne⟩
      obtain ⟨dx, e⟩ := hc.ins
      exact ⟨dx, k _ _ e hard_ins⟩
    · rw [if_neg e]
      exact (h.at_ i hi).keep k fun hi2 u e2 => stay _ _ e2 (h.ne i o hi ho e hi2 (by rw [hx]; rfl))
  · rw [getD_set' h.sl ho] at h1 h2
    refine h.ne i j hi hj hij ?_ ?_
    · by_cases e : i = o
      · subst e; rw [hx]; rfl
      · rw [if_neg e] at h1; exact h1
    · by_cases e : j = o
      · subst e; rw [hx]; rfl
      · rw [if_neg e] at h2; exact h2
theorem StateIn.put {C CL : Addr} {H H' : Hp} {ca : Addr} {s : Sp.State} {cvs : List V} {hs : Nat → Addr} (h : StateIn Bd C CL H ca s cvs hs) {o : Nat} (ho : o < 2) {x : Sp.Cluster} {p ha : Addr} {cv : V} {hv : List V} (m : Same (hid ca H) (hid ca H')) (hl : H' ca = some (.lst (cvs.set o (.ref p)))) (hn : H ha = none) (hc : Clu Bd C CL H' p x cv ha hv) :
    StateIn Bd C CL H' ca (s.set o (some x)) (cvs.set o (.ref p)) (fun i => if i = o then ha else hs i) := by
  have k := keep_hid h.lst h.soft m
  have stay : ∀ b u, H b = some u → b ≠ ca → H' b = some u := fun b u e n => hid_same _ _ _ _ (m _ _ (hid_at e n))
  have nca : ha ≠ ca := fun e => by rw [e, h.lst] at hn; cases hn
  have old : ∀ i, i < 2 → (s.getD i none).isSome = true → ∃ u, H (hs i) = some u ∧ hs i ≠ ca := fun i hi hs' => by
    have := h.at_ i hi
    cases q : s.getD i none with
    | none => rw [q] at hs'; cases hs'
    | some y => rw [q] at this; obtain ⟨_, _, _, _, h2, h3⟩ := this; exact ⟨_, h2.held, h3⟩
  refine ⟨hl, by rw [List.length_set]; exact h.len, by rw [List.length_set]; exact h.sl, fun i hi => ?_, fun i j hi hj hij h1 h2 => ?_, fun b hb => let ⟨o, e, n⟩ := h.bd b hb; ⟨o, k _ _ e n, n⟩⟩
  · rw [getD_set' h.sl ho, List.getElem?_set]
    by_cases e : i = o
    · subst e
      rw [if_pos rfl, if_pos rfl, if_pos (by rw [h.len]; exact hi), if_pos rfl]
      exact ⟨p, cv, hv, rfl, hc, nca⟩
    · rw [if_neg e, if_neg (fun z => e z.symm), if_neg e]
      refine (h.at_ i hi).keep k fun hi2 u e2 => ?_
      obtain ⟨_, _, n⟩ := old i hi hi2
      exact stay _ _ e2 n
  · rw [getD_set' h.sl ho] at h1 h2
    show (if i = o then ha else hs i) ≠ (if j = o then ha else hs j)
    by_cases e : i = o
    · have e2 : ¬ j = o := fun z => hij (e.trans z.symm)
      rw [if_neg e2] at h2
      rw [if_pos e, if_neg e2]
      obtain ⟨u, hu, _⟩ := old j hj h2
      exact fun z => by rw [← z, hn] at hu; cases hu
    · rw [if_neg e] at h1
      rw [if_neg e]
      by_cases e2 : j = o
      · rw [if_pos e2]
        obtain ⟨u, hu, _⟩ := old i hi h1
        exact fun z => by rw [z, hn] at hu; cases hu
      · rw [if_neg e2] at h2
        rw [if_neg e2]
        exact h.ne i j hi hj hij h1 h2
theorem StateIn.write {C CL : Addr} {H H' : Hp} {ca ga : Addr} {s : Sp.State} {cvs : List V} {hs : Nat → Addr} {g g' : List Int} (h : StateIn (fun b => b = ga) C CL H ca s cvs hs) (hg : H ga = some (.lst (ivs g))) (m : Same (hid ga H) (hid ga H')) (hg' : H' ga = some (.lst (ivs g'))) : StateIn (fun b => b = ga) C CL H' ca s cvs hs := by
  have stay : ∀ b u, H b = some u → b ≠ ga → H' b = some u := fun b u e n => hid_same _ _ _ _ (m _ _ (hid_at e n))
  have soft : ∀ b u, H b = some u → Soft u → b ≠ ga := fun b u e hs z => by
    rw [z, hg] at e
    cases e
    exact hard_ints _ hs
  have hbd' : ∀ b, b = ga → ∃ o, H' b = some o ∧ ¬ Soft o := fun b hb => ⟨.lst (ivs g'), by rw [hb]; exact hg', hard_ints _⟩
  have insn : ∀ b C dx fs, H b = some (.ins C dx fs) → b ≠ ga := fun b C dx fs e z => by
    rw [z, hg] at e
    cases e
  refine ⟨stay _ _ h.lst (soft _ _ h.lst h.soft), h.len, h.sl, fun i hi => ?_, h.ne, hbd'⟩
  have := h.at_ i hi
  cases q : s.getD i none with
  | none => rw [q] at this; exact this
  | some x =>
    rw [q] at this
    obtain ⟨p, cv, hv, e, hc, n⟩ := this
    refine ⟨p, cv, hv, e, ⟨?_, ?_, hc.ok, stay _ _ hc.held (soft _ _ hc.held (hc.nodes.soft hc.ok)), ⟨hc.nodes.hl, hc.nodes.nl, fun j hj => ?_⟩, hbd'⟩, n⟩
    · obtain ⟨dx, e⟩ := hc.ins
      exact ⟨dx, stay _ _ e (insn _ _ _ _ e)⟩
    · obtain ⟨a, dx, e, h1⟩ := hc.code
      exact ⟨a, dx, e, stay _ _ h1 (insn _ _ _ _ h1)⟩
    · have hj2 := hc.nodes.at_ j hj
      cases q2 : x.nodes.getD j none with
      | none => rw [q2] at hj2; exact hj2
      | some r =>
        rw [q2] at hj2
        obtain ⟨h1, a, e1, h2, hb⟩ := hj2
        exact ⟨h1, a, e1, stay _ _ h2 hb, hb⟩
def IsCall (CA : Addr) (H : Hp) (q : Addr) (n : Nat) (ns : List Nat) (xs : List (List Int)) : Prop :=
  ∃ dx wa la lvs ev, H q = some (.ins CA dx (callF (nv n) (.ref wa) (.ref la) ev)) ∧ H wa = some (.lst (nvs ns)) ∧ H la = some (.lst lvs) ∧ lvs.length = xs.length ∧ ∀ i v, lvs[i]? = some v → ∃ b, v = .ref b ∧ H b = some (.lst (ivs (xs.getD i [])))
theorem lists1 {H : Hp} {lvs : List V} {x : List Int} (h : lvs.length = [x].length) (e : ∀ i v, lvs[i]? = some v → ∃ b, v = .ref b ∧ H b = some (.lst (ivs ([x].getD i [])))) : ∃ b, lvs = [.ref b] ∧ H b = some (.lst (ivs x)) := by
  match lvs, h, e with
  | [v], _, e =>
    obtain ⟨b, rfl, hb⟩ := e 0 v rfl
    exact ⟨b, rfl, hb⟩
theorem lists2 {H : Hp} {lvs : List V} {x y : List Int} (h : lvs.length = [x, y].length) (e : ∀ i v, lvs[i]? = some v → ∃ b, v = .ref b ∧ H b = some (.lst (ivs ([x, y].getD i [])))) : ∃ b c, lvs = [.ref b, .ref c] ∧ H b = some (.lst (ivs x)) ∧ H c = some (.lst (ivs y)) := by
  match lvs, h, e with
  | [v, u], _, e =>
    obtain ⟨b, rfl, hb⟩ := e 0 v rfl
    obtain ⟨c, rfl, hc⟩ := e 1 u rfl
    exact ⟨b, c, rfl, hb, hc⟩
theorem ivs_nI (l : List Nat) : ivs (nI l) = nvs l := ivs_nats l
theorem ifF {c A B : Prop} [Decidable c] (h : ¬ c) (b : B) : if c then A else B := by rw [if_neg h]; exact b
theorem ifT {c A B : Prop} [Decidable c] (h : c) (a : A) : if c then A else B := by rw [if_pos h]; exact a
end Sn
end
section
set_option maxHeartbeats 4000000
namespace Sn
open PySem PySem.Spec PyProof.Rows L2
open Tld (Ok ok_iff)
open Gau (Shape)
variable {Bd : Addr → Prop}
section
variable {P : Program} {w : World} {K : PySem.W.Frag} {mg : Str → Option Value} {base : Heap} {C CL CA : Addr}
theorem sc_code_from : FnScope ["whole", "start"] ["whole", "start"] (defScope (top 70)) := ⟨rfl, rfl, rfl, by decide +kernel, rfl, by decide +kernel, by decide +kernel⟩
def sp_code_from (C : Addr) : L2.Sp := fun vs H Q _ => ∃ (wa : Addr) (ns : List Nat) (s : Nat), vs = [.ref wa, nv s] ∧ H wa = some (.lst (nvs ns)) ∧ s + 3 < ns.length ∧ ∀ H' v, Same H H' → IsCode C H' v ⟨ns.getD s 0, ns.getD (s + 1) 0, ns.getD (s + 2) 0, ns.getD (s + 3) 0⟩ → Q v H'
theorem ok_code_from {f : Addr} {fd : FuncData} (F : Fun K "code_from" "code_from" (top 70) f fd) (k_Code : Kd P w K mg base "Code" C ["self", "k", "d", "n", "width"] (sp_Code C)) : FnOk P w K mg base CX0 3 f fd ["whole", "start"] (sp_code_from C) := by
  refine F.ok sc_code_from (fun vs H Q E h => ?_) (fun cdv A outer s H vs Q E hr h => ?_)
  · obtain ⟨wa, ns, s, rfl, _⟩ := h
    rfl
  · obtain ⟨wa, ns, j, rfl, hwa, hl, k⟩ := h
    refine ⟨_, (pss_one (ps_ret (pe_mk k_Code (hr.mono (by decide)) rfl (pa_cons (pe_ix ix_list (pv 0) (pv 1) (fun _ _ => rfl)) (pa_cons (pe_ix ix_list (pv 0) (pe_op op_add (pv 1) pe_int) (fun _ _ => rfl)) (pa_cons (pe_ix ix_list (pv 0) (pe_op op_add (pv 1) pe_int) (fun _ _ => rfl)) (pa_cons (pe_ix ix_list (pv 0) (pe_op op_add (pv 1) pe_int) (fun _ _ => rfl)) pa_nil))))))), ?_⟩
    refine ⟨_, rfl, _, rfl, wa, _, _, _, rfl, rfl, SqL.of hwa, at_of (j := j) rfl (nvs_at (by omega)), _, rfl, _, rfl, _, _, rfl, rfl, wa, _, _, _, rfl, rfl, SqL.of hwa, at_of (j := j + 1) (by omega) (nvs_at (by omega)), _, rfl, _, rfl, _, _, rfl, rfl, wa, _, _, _, rfl, rfl, SqL.of hwa, at_of (j := j + 2) (by omega) (nvs_at (by omega)), _, rfl, _, rfl, _, _, rfl, rfl, wa, _, _, _, rfl, rfl, SqL.of hwa, at_of (j := j + 3) (by omega) (nvs_at (by omega)), ?_⟩
    intro cp cdx ncp ncdx nex
    refine ⟨cp, cdx, _, _, _, _, rfl, upd_same, rfl, ?_⟩
    rw [upd_upd]
    exact k _ _ ((Same.new ncdx).trans (.new (by rw [upd_ne (Ne.symm nex)]; exact ncp))) ⟨cp, cdx, rfl, upd_same⟩
theorem sc_answer_of_code : FnScope ["call", "whole", "lists", "code"] ["call"] (defScope (top 71)) := ⟨rfl, rfl, rfl, by decide +kernel, rfl, by decide +kernel, by decide +kernel⟩
def sp_answer_of_code (CA : Addr) : L2.Sp := fun vs H Q _ => ∃ (q : Addr) (n : Nat) (ns : List Nat) (xs : List (List Int)) (c : Sp.Call), vs = [.ref q] ∧ IsCall CA H q n ns xs ∧ CC n ns xs c ∧ n < 8 ∧ RA H Q (codeA c)
theorem ok_answer_of_code {f : Addr} {fd : FuncData} (F : Fun K "answer_of_code" "answer_of_code" (top 71) f fd) (Y : Ca K CA) (g_code_from : Gd P w K mg base 3 "code_from" ["whole", "start"] (sp_code_from C))
    (g_judge : Gd P w K mg base 3 "judge" ["code"] (sp_judge C)) (g_store : Gd P w K mg base 4 "store" ["code", "node", "document"] (sp_store C)) (g_tell : Gd P w K mg base 6 "tell" ["code", "nodes", "rows"] (sp_tell C)) (g_part : Gd P w K mg base 4 "part" ["code", "node", "rows"] (sp_part C))
    (g_again : Gd P w K mg base 5 "again" ["code", "node", "nodes", "parts"] (sp_again C)) (g_agree : Gd P w K mg base 5 "agree" ["code", "i", "j", "rows_i", "rows_j"] (sp_agree C)) (g_change : Gd P w K mg base 5 "change" ["code", "node", "i", "rows", "difference"] (sp_change C)) (g_wrong : Gd P w K mg base 6 "wrong" ["code", "nodes", "rows"] (sp_wrong C)) :
    FnOk P w K mg base CX0 7 f fd ["call"] (sp_answer_of_code CA) := by
  refine F.ok sc_answer_of_code (fun vs H Q E h => ?_) (fun cdv A outer s H vs Q E hr h => ?_)
  · obtain ⟨q, n, ns, xs, c, rfl, _⟩ := h
    rfl
  · obtain ⟨q, n, ns, xs, c, rfl, ⟨dx, wa, la, lvs, ev, hq, hwa, hla, hll, hlv⟩, hcc, h8, k⟩ := h
    refine ⟨_, (pss_cons (ps_set (i := 1) sc_answer_of_code.nd rfl (Or.inl rfl) (pe_fld (pv 0) rfl))
      (pss_cons (ps_set (i := 2) sc_answer_of_code.nd rfl (Or.inl rfl) (pe_fld (pv 0) rfl))
      (pss_cons (ps_set (i := 3) sc_answer_of_code.nd rfl (Or.inl rfl) (pe_g g_code_from (hr.mono (by decide)) rfl (pa_cons (pv 1) (pa_cons pe_int pa_nil))))
      (pss_cons (ps_if (pt_cmpR op_eq (pe_fld (pv 0) rfl) pe_int (nomark _)) (pss_one (ps_ret (pe_g g_judge (hr.mono (by decide)) rfl (pa_cons (pv 3) pa_nil)))) pss_nil)
      (pss_cons (ps_if (pt_cmpR op_eq (pe_fld (pv 0) rfl) pe_int (nomark _)) (pss_one (ps_ret (pe_g g_store (hr.mono (by decide)) rfl (pa_cons (pv 3) (pa_cons (pe_ix ix_list (pv 1) pe_int (fun _ _ => rfl)) (pa_cons (pe_ix ix_list (pv 2) pe_int (fun _ _ => rfl)) pa_nil)))))) pss_nil)
      (pss_cons (ps_if (pt_cmpR op_eq (pe_fld (pv 0) rfl) pe_int (nomark _)) (pss_one (ps_ret (pe_g g_tell (hr.mono (by decide)) rfl (pa_cons (pv 3) (pa_cons (pe_ix ix_list (pv 2) pe_int (fun _ _ => rfl)) (pa_cons (pe_ix ix_list (pv 2) pe_int (fun _ _ => rfl)) pa_nil)))))) pss_nil)
      (pss_cons (ps_if (pt_cmpR op_eq (pe_fld (pv 0) rfl) pe_int (nomark _)) (pss_one (ps_ret (pe_g g_part (hr.mono (by decide)) rfl (pa_cons (pv 3) (pa_cons (pe_ix ix_list (pv 1) pe_int (fun _ _ => rfl)) (pa_cons (pe_ix ix_list (pv 2) pe_int (fun _ _ => rfl)) pa_nil)))))) pss_nil)
      (pss_cons (ps_if (pt_cmpR op_eq (pe_fld (pv 0) rfl) pe_int (nomark _)) (pss_one (ps_ret (pe_g g_again (hr.mono (by decide)) rfl (pa_cons (pv 3) (pa_cons (pe_ix ix_list (pv 1) pe_int (fun _ _ => rfl)) (pa_cons (pe_ix ix_list (pv 2) pe_int (fun _ _ => rfl)) (pa_cons (pe_ix ix_list (pv 2) pe_int (fun _ _ => rfl)) pa_nil))))))) pss_nil)
      (pss_cons (ps_if (pt_cmpR op_eq (pe_fld (pv 0) rfl) pe_int (nomark _)) (pss_one (ps_ret (pe_g g_agree (hr.mono (by decide)) rfl (pa_cons (pv 3) (pa_cons (pe_ix ix_list (pv 1) pe_int (fun _ _ => rfl)) (pa_cons (pe_ix ix_list (pv 1) pe_int (fun _ _ => rfl)) (pa_cons (pe_ix ix_list (pv 2) pe_int (fun _ _ => rfl)) (pa_cons (pe_ix ix_list (pv 2) pe_int (fun _ _ => rfl)) pa_nil)))))))) pss_nil)
      (pss_cons (ps_if (pt_cmpR op_eq (pe_fld (pv 0) rfl) pe_int (nomark _)) (pss_one (ps_ret (pe_g g_change (hr.mono (by decide)) rfl (pa_cons (pv 3) (pa_cons (pe_ix ix_list (pv 1) pe_int (fun _ _ => rfl)) (pa_cons (pe_ix ix_list (pv 1) pe_int (fun _ _ => rfl)) (pa_cons (pe_ix ix_list (pv 2) pe_int (fun _ _ => rfl)) (pa_cons (pe_ix ix_list (pv 2) pe_int (fun _ _ => rfl)) pa_nil)))))))) pss_nil)
      (pss_one (ps_ret (pe_g g_wrong (hr.mono (by decide)) rfl (pa_cons (pv 3) (pa_cons (pe_ix ix_list (pv 2) pe_int (fun _ _ => rfl)) (pa_cons (pe_ix ix_list (pv 2) pe_int (fun _ _ => rfl)) pa_nil)))))))))))))))), ?_⟩
    refine ⟨_, rfl, q, CA, dx, _, _, rfl, hq, Y.cl, Y.nw, callF_w _ _ _ _, ?_⟩
    refine ⟨_, rfl, q, CA, dx, _, _, rfl, hq, Y.cl, Y.nl, callF_l _ _ _ _, ?_⟩
    cases hcc with
    | judge k' d n l =>
      refine ⟨_, rfl, wa, _, 0, rfl, hwa, by show _ < _; simp, fun H1 v1 s1 hcode => ?_⟩
      refine ⟨_, rfl, q, CA, dx, _, _, rfl, (s1 _ _ hq), Y.cl, Y.nn, callF_n _ _ _ _, rfl, _, rfl, ifT (by decide) ?_⟩
      exact ⟨_, rfl, _, _, rfl, hcode, k.mono s1⟩
    | store k' d n l f b =>
      obtain ⟨b0, rfl, hb0⟩ := lists1 hll hlv
      rw [ivs_bytes] at hb0
      refine ⟨_, rfl, wa, _, 0, rfl, hwa, by show _ < _; simp, fun H1 v1 s1 hcode => ?_⟩
      refine ⟨_, rfl, q, CA, dx, _, _, rfl, (s1 _ _ hq), Y.cl, Y.nn, callF_n _ _ _ _, rfl, _, rfl, ifF (by decide) ?_⟩
      refine ⟨_, rfl, q, CA, dx, _, _, rfl, (s1 _ _ hq), Y.cl, Y.nn, callF_n _ _ _ _, rfl, _, rfl, ifT (by decide) ?_⟩
      exact ⟨_, rfl, _, rfl, wa, _, _, _, rfl, rfl, SqL.of (s1 _ _ hwa), atI_nat (j := 4) rfl, _, rfl, la, _, _, _, rfl, rfl, SqL.of (s1 _ _ hla), atI_nat (j := 0) rfl, _, _, _, f, b, rfl, hcode, ⟨b0, rfl, s1 _ _ hb0⟩, k.mono s1⟩
    | tell k' d n l m b hm =>
      obtain ⟨b0, b1, rfl, hb0, hb1⟩ := lists2 hll hlv
      rw [ivs_nI] at hb0
      rw [ivs_bytes] at hb1
      refine ⟨_, rfl, wa, _, 0, rfl, hwa, by show _ < _; simp, fun H1 v1 s1 hcode => ?_⟩
      refine ⟨_, rfl, q, CA, dx, _, _, rfl, (s1 _ _ hq), Y.cl, Y.nn, callF_n _ _ _ _, rfl, _, rfl, ifF (by decide) ?_⟩
      refine ⟨_, rfl, q, CA, dx, _, _, rfl, (s1 _ _ hq), Y.cl, Y.nn, callF_n _ _ _ _, rfl, _, rfl, ifF (by decide) ?_⟩
      refine ⟨_, rfl, q, CA, dx, _, _, rfl, (s1 _ _ hq), Y.cl, Y.nn, callF_n _ _ _ _, rfl, _, rfl, ifT (by decide) ?_⟩
      exact ⟨_, rfl, _, rfl, la, _, _, _, rfl, rfl, SqL.of (s1 _ _ hla), atI_nat (j := 0) rfl, _, rfl, la, _, _, _, rfl, rfl, SqL.of (s1 _ _ hla), atI_nat (j := 1) rfl, _, _, _, _, m, b, rfl, hcode, ⟨b0, rfl, s1 _ _ hb0⟩, ⟨b1, rfl, s1 _ _ hb1⟩, by omega, k.mono s1⟩
    | part k' d n l t b =>
      obtain ⟨b0, rfl, hb0⟩ := lists1 hll hlv
      rw [ivs_bytes] at hb0
      refine ⟨_, rfl, wa, _, 0, rfl, hwa, by show _ < _; simp, fun H1 v1 s1 hcode => ?_⟩
      refine ⟨_, rfl, q, CA, dx, _, _, rfl, (s1 _ _ hq), Y.cl, Y.nn, callF_n _ _ _ _, rfl, _, rfl, ifF (by decide) ?_⟩
      refine ⟨_, rfl, q, CA, dx, _, _, rfl, (s1 _ _ hq), Y.cl, Y.nn, callF_n _ _ _ _, rfl, _, rfl, ifF (by decide) ?_⟩
      refine ⟨_, rfl, q, CA, dx, _, _, rfl, (s1 _ _ hq), Y.cl, Y.nn, callF_n _ _ _ _, rfl, _, rfl, ifF (by decide) ?_⟩
      refine ⟨_, rfl, q, CA, dx, _, _, rfl, (s1 _ _ hq), Y.cl, Y.nn, callF_n _ _ _ _, rfl, _, rfl, ifT (by decide) ?_⟩
      exact ⟨_, rfl, _, rfl, wa, _, _, _, rfl, rfl, SqL.of (s1 _ _ hwa), atI_nat (j := 4) rfl, _, rfl, la, _, _, _, rfl, rfl, SqL.of (s1 _ _ hla), atI_nat (j := 0) rfl, _, _, _, t, b, rfl, hcode, ⟨b0, rfl, s1 _ _ hb0⟩, k.mono s1⟩
    | again k' d n l f m b hm =>
      obtain ⟨b0, b1, rfl, hb0, hb1⟩ := lists2 hll hlv
      rw [ivs_nI] at hb0
      rw [ivs_bytes] at hb1
      refine ⟨_, rfl, wa, _, 0, rfl, hwa, by show _ < _; simp, fun H1 v1 s1 hcode => ?_⟩
      refine ⟨_, rfl, q, CA, dx, _, _, rfl, (s1 _ _ hq), Y.cl, Y.nn, callF_n _ _ _ _, rfl, _, rfl, ifF (by decide) ?_⟩
      refine ⟨_, rfl, q, CA, dx, _, _, rfl, (s1 _ _ hq), Y.cl, Y.nn, callF_n _ _ _ _, rfl, _, rfl, ifF (by decide) ?_⟩
      refine ⟨_, rfl, q, CA, dx, _, _, rfl, (s1 _ _ hq), Y.cl, Y.nn, callF_n _ _ _ _, rfl, _, rfl, ifF (by decide) ?_⟩
      refine ⟨_, rfl, q, CA, dx, _, _, rfl, (s1 _ _ hq), Y.cl, Y.nn, callF_n _ _ _ _, rfl, _, rfl, ifF (by decide) ?_⟩
      refine ⟨_, rfl, q, CA, dx, _, _, rfl, (s1 _ _ hq), Y.cl, Y.nn, callF_n _ _ _ _, rfl, _, rfl, ifT (by decide) ?_⟩
      exact ⟨_, rfl, _, rfl, wa, _, _, _, rfl, rfl, SqL.of (s1 _ _ hwa), atI_nat (j := 4) rfl, _, rfl, la, _, _, _, rfl, rfl, SqL.of (s1 _ _ hla), atI_nat (j := 0) rfl, _, rfl, la, _, _, _, rfl, rfl, SqL.of (s1 _ _ hla), atI_nat (j := 1) rfl, _, _, _, _, f, m, b, rfl, hcode, ⟨b0, rfl, s1 _ _ hb0⟩, ⟨b1, rfl, s1 _ _ hb1⟩, by omega, k.mono s1⟩
    | agree k' d n l i j a b =>
      obtain ⟨b0, b1, rfl, hb0, hb1⟩ := lists2 hll hlv
      rw [ivs_bytes] at hb0
      rw [ivs_bytes] at hb1
      refine ⟨_, rfl, wa, _, 0, rfl, hwa, by show _ < _; simp, fun H1 v1 s1 hcode => ?_⟩
      refine ⟨_, rfl, q, CA, dx, _, _, rfl, (s1 _ _ hq), Y.cl, Y.nn, callF_n _ _ _ _, rfl, _, rfl, ifF (by decide) ?_⟩
      refine ⟨_, rfl, q, CA, dx, _, _, rfl, (s1 _ _ hq), Y.cl, Y.nn, callF_n _ _ _ _, rfl, _, rfl, ifF (by decide) ?_⟩
      refine ⟨_, rfl, q, CA, dx, _, _, rfl, (s1 _ _ hq), Y.cl, Y.nn, callF_n _ _ _ _, rfl, _, rfl, ifF (by decide) ?_⟩
      refine ⟨_, rfl, q, CA, dx, _, _, rfl, (s1 _ _ hq), Y.cl, Y.nn, callF_n _ _ _ _, rfl, _, rfl, ifF (by decide) ?_⟩
      refine ⟨_, rfl, q, CA, dx, _, _, rfl, (s1 _ _ hq), Y.cl, Y.nn, callF_n _ _ _ _, rfl, _, rfl, ifF (by decide) ?_⟩
      refine ⟨_, rfl, q, CA, dx, _, _, rfl, (s1 _ _ hq), Y.cl, Y.nn, callF_n _ _ _ _, rfl, _, rfl, ifT (by decide) ?_⟩
      exact ⟨_, rfl, _, rfl, wa, _, _, _, rfl, rfl, SqL.of (s1 _ _ hwa), atI_nat (j := 4) rfl, _, rfl, wa, _, _, _, rfl, rfl, SqL.of (s1 _ _ hwa), atI_nat (j := 5) rfl, _, rfl, la, _, _, _, rfl, rfl, SqL.of (s1 _ _ hla), atI_nat (j := 0) rfl, _, rfl, la, _, _, _, rfl, rfl, SqL.of (s1 _ _ hla), atI_nat (j := 1) rfl, _, _, _, _, i, j, a, b, rfl, hcode, ⟨b0, rfl, s1 _ _ hb0⟩, ⟨b1, rfl, s1 _ _ hb1⟩, k.mono s1⟩
    | change k' d n l f i a e =>
      obtain ⟨b0, b1, rfl, hb0, hb1⟩ := lists2 hll hlv
      rw [ivs_bytes] at hb0
      rw [ivs_bytes] at hb1
      refine ⟨_, rfl, wa, _, 0, rfl, hwa, by show _ < _; simp, fun H1 v1 s1 hcode => ?_⟩
      refine ⟨_, rfl, q, CA, dx, _, _, rfl, (s1 _ _ hq), Y.cl, Y.nn, callF_n _ _ _ _, rfl, _, rfl, ifF (by decide) ?_⟩
      refine ⟨_, rfl, q, CA, dx, _, _, rfl, (s1 _ _ hq), Y.cl, Y.nn, callF_n _ _ _ _, rfl, _, rfl, ifF (by decide) ?_⟩
      refine ⟨_, rfl, q, CA, dx, _, _, rfl, (s1 _ _ hq), Y.cl, Y.nn, callF_n _ _ _ _, rfl, _, rfl, ifF (by decide) ?_⟩
      refine ⟨_, rfl, q, CA, dx, _, _, rfl, (s1 _ _ hq), Y.cl, Y.nn, callF_n _ _ _ _, rfl, _, rfl, ifF (by decide) ?_⟩
      refine ⟨_, rfl, q, CA, dx, _, _, rfl, (s1 _ _ hq), Y.cl, Y.nn, callF_n _ _ _ _, rfl, _, rfl, ifF (by decide) ?_⟩
      refine ⟨_, rfl, q, CA, dx, _, _, rfl, (s1 _ _ hq), Y.cl, Y.nn, callF_n _ _ _ _, rfl, _, rfl, ifF (by decide) ?_⟩
      refine ⟨_, rfl, q, CA, dx, _, _, rfl, (s1 _ _ hq), Y.cl, Y.nn, callF_n _ _ _ _, rfl, _, rfl, ifT (by decide) ?_⟩
      exact ⟨_, rfl, _, rfl, wa, _, _, _, rfl, rfl, SqL.of (s1 _ _ hwa), atI_nat (j := 4) rfl, _, rfl, wa, _, _, _, rfl, rfl, SqL.of (s1 _ _ hwa), atI_nat (j := 5) rfl, _, rfl, la, _, _, _, rfl, rfl, SqL.of (s1 _ _ hla), atI_nat (j := 0) rfl, _, rfl, la, _, _, _, rfl, rfl, SqL.of (s1 _ _ hla), atI_nat (j := 1) rfl, _, _, _, _, f, i, a, e, rfl, hcode, ⟨b0, rfl, s1 _ _ hb0⟩, ⟨b1, rfl, s1 _ _ hb1⟩, k.mono s1⟩
    | wrong k' d n l m b hm =>
      obtain ⟨b0, b1, rfl, hb0, hb1⟩ := lists2 hll hlv
      rw [ivs_nI] at hb0
      rw [ivs_bytes] at hb1
      refine ⟨_, rfl, wa, _, 0, rfl, hwa, by show _ < _; simp, fun H1 v1 s1 hcode => ?_⟩
      refine ⟨_, rfl, q, CA, dx, _, _, rfl, (s1 _ _ hq), Y.cl, Y.nn, callF_n _ _ _ _, rfl, _, rfl, ifF (by decide) ?_⟩
      refine ⟨_, rfl, q, CA, dx, _, _, rfl, (s1 _ _ hq), Y.cl, Y.nn, callF_n _ _ _ _, rfl, _, rfl, ifF (by decide) ?_⟩
      refine ⟨_, rfl, q, CA, dx, _, _, rfl, (s1 _ _ hq), Y.cl, Y.nn, callF_n _ _ _ _, rfl, _, rfl, ifF (by decide) ?_⟩
      refine ⟨_, rfl, q, CA, dx, _, _, rfl, (s1 _ _ hq), Y.cl, Y.nn, callF_n _ _ _ _, rfl, _, rfl, ifF (by decide) ?_⟩
      refine ⟨_, rfl, q, CA, dx, _, _, rfl, (s1 _ _ hq), Y.cl, Y.nn, callF_n _ _ _ _, rfl, _, rfl, ifF (by decide) ?_⟩
      refine ⟨_, rfl, q, CA, dx, _, _, rfl, (s1 _ _ hq), Y.cl, Y.nn, callF_n _ _ _ _, rfl, _, rfl, ifF (by decide) ?_⟩
      refine ⟨_, rfl, q, CA, dx, _, _, rfl, (s1 _ _ hq), Y.cl, Y.nn, callF_n _ _ _ _, rfl, _, rfl, ifF (by decide) ?_⟩
      exact ⟨_, rfl, _, rfl, la, _, _, _, rfl, rfl, SqL.of (s1 _ _ hla), atI_nat (j := 0) rfl, _, rfl, la, _, _, _, rfl, rfl, SqL.of (s1 _ _ hla), atI_nat (j := 1) rfl, _, _, _, _, m, b, rfl, hcode, ⟨b0, rfl, s1 _ _ hb0⟩, ⟨b1, rfl, s1 _ _ hb1⟩, by omega, k.mono s1⟩
    | build _ _ _ _ _ _ => omega
    | state _ => omega
    | node _ _ => omega
    | lose _ _ => omega
    | spoil _ _ _ _ => omega
    | mend _ _ _ _ => omega
    | edit _ _ _ => omega
    | read _ _ _ => omega
    | look _ => omega
theorem sc_answer_of_cluster : FnScope ["cluster", "call", "whole", "lists"] ["cluster", "call"] (defScope (top 72)) := ⟨rfl, rfl, rfl, by decide +kernel, rfl, by decide +kernel, by decide +kernel⟩
def sp_answer_of_cluster (C CL CA : Addr) : L2.Sp := fun vs H Q _ => ∃ (Bd : Addr → Prop) (p q : Addr) (x : Sp.Cluster) (cv : V) (ha : Addr) (hv : List V) (n : Nat) (ns : List Nat) (xs : List (List Int)) (c : Sp.Call), vs = [.ref p, .ref q] ∧ Clu Bd C CL H p x cv ha hv ∧ IsCall CA H q n ns xs ∧ CC n ns xs c ∧ 9 ≤ n ∧ RM Bd C H Q ha x.code (cluR x c).1 (cluR x c).2
theorem ok_answer_of_cluster {f : Addr} {fd : FuncData} (F : Fun K "answer_of_cluster" "answer_of_cluster" (top 72) f fd) (Y : Ca K CA)
    (g_state : Gd P w K mg base 2 "state" ["cluster"] (sp_state C CL)) (g_node_rows : Gd P w K mg base 3 "node_rows" ["cluster", "node"] (sp_node_rows C CL)) (g_lose : Gd P w K mg base 3 "lose" ["cluster", "node"] (sp_lose C CL)) (g_spoil : Gd P w K mg base 3 "spoil" ["cluster", "node", "j", "difference"] (sp_spoil C CL))
    (g_mend : Gd P w K mg base 6 "mend" ["cluster", "node", "nodes"] (sp_mend C CL)) (g_edit : Gd P w K mg base 5 "edit" ["cluster", "i", "difference"] (sp_edit C CL)) (g_read : Gd P w K mg base 7 "read" ["cluster", "nodes"] (sp_read C CL)) (g_look : Gd P w K mg base 7 "look" ["cluster"] (sp_look C CL)) :
    FnOk P w K mg base CX0 8 f fd ["cluster", "call"] (sp_answer_of_cluster C CL CA) := by
  refine F.ok sc_answer_of_cluster (fun vs H Q E h => ?_) (fun cdv A outer s H vs Q E hr h => ?_)
  · obtain ⟨Bd, p, q, x, cv, ha, hv, n, ns, xs, c, rfl, _⟩ := h
    rfl
  · obtain ⟨Bd, p, q, x, cv, ha, hv, n, ns, xs, c, rfl, hc, ⟨dx, wa, la, lvs, ev, hq, hwa, hla, hll, hlv⟩, hcc, h9, k⟩ := h
    refine ⟨_, (pss_cons (ps_set (i := 2) sc_answer_of_cluster.nd rfl (Or.inl rfl) (pe_fld (pv 1) rfl))
      (pss_cons (ps_set (i := 3) sc_answer_of_cluster.nd rfl (Or.inl rfl) (pe_fld (pv 1) rfl))
      (pss_cons (ps_if (pt_cmpR op_eq (pe_fld (pv 1) rfl) pe_int (nomark _)) (pss_one (ps_ret (pe_g g_state (hr.mono (by decide)) rfl (pa_cons (pv 0) pa_nil)))) pss_nil)
      (pss_cons (ps_if (pt_cmpR op_eq (pe_fld (pv 1) rfl) pe_int (nomark _)) (pss_one (ps_ret (pe_g g_node_rows (hr.mono (by decide)) rfl (pa_cons (pv 0) (pa_cons (pe_ix ix_list (pv 2) pe_int (fun _ _ => rfl)) pa_nil))))) pss_nil)
      (pss_cons (ps_if (pt_cmpR op_eq (pe_fld (pv 1) rfl) pe_int (nomark _)) (pss_one (ps_ret (pe_g g_lose (hr.mono (by decide)) rfl (pa_cons (pv 0) (pa_cons (pe_ix ix_list (pv 2) pe_int (fun _ _ => rfl)) pa_nil))))) pss_nil)
      (pss_cons (ps_if (pt_cmpR op_eq (pe_fld (pv 1) rfl) pe_int (nomark _)) (pss_one (ps_ret (pe_g g_spoil (hr.mono (by decide)) rfl (pa_cons (pv 0) (pa_cons (pe_ix ix_list (pv 2) pe_int (fun _ _ => rfl)) (pa_cons (pe_ix ix_list (pv 2) pe_int (fun _ _ => rfl)) (pa_cons (pe_ix ix_list (pv 3) pe_int (fun _ _ => rfl)) pa_nil))))))) pss_nil)
      (pss_cons (ps_if (pt_cmpR op_eq (pe_fld (pv 1) rfl) pe_int (nomark _)) (pss_one (ps_ret (pe_g g_mend (hr.mono (by decide)) rfl (pa_cons (pv 0) (pa_cons (pe_ix ix_list (pv 2) pe_int (fun _ _ => rfl)) (pa_cons (pe_ix ix_list (pv 3) pe_int (fun _ _ => rfl)) pa_nil)))))) pss_nil)
      (pss_cons (ps_if (pt_cmpR op_eq (pe_fld (pv 1) rfl) pe_int (nomark _)) (pss_one (ps_ret (pe_g g_edit (hr.mono (by decide)) rfl (pa_cons (pv 0) (pa_cons (pe_ix ix_list (pv 2) pe_int (fun _ _ => rfl)) (pa_cons (pe_ix ix_list (pv 3) pe_int (fun _ _ => rfl)) pa_nil)))))) pss_nil)
      (pss_cons (ps_if (pt_cmpR op_eq (pe_fld (pv 1) rfl) pe_int (nomark _)) (pss_one (ps_ret (pe_g g_read (hr.mono (by decide)) rfl (pa_cons (pv 0) (pa_cons (pe_ix ix_list (pv 3) pe_int (fun _ _ => rfl)) pa_nil))))) pss_nil)
      (pss_one (ps_ret (pe_g g_look (hr.mono (by decide)) rfl (pa_cons (pv 0) pa_nil))))))))))))), ?_⟩
    refine ⟨_, rfl, q, CA, dx, _, _, rfl, hq, Y.cl, Y.nw, callF_w _ _ _ _, ?_⟩
    refine ⟨_, rfl, q, CA, dx, _, _, rfl, hq, Y.cl, Y.nl, callF_l _ _ _ _, ?_⟩
    cases hcc with
    | judge _ _ _ _ => omega
    | store _ _ _ _ _ _ => omega
    | tell _ _ _ _ _ _ _ => omega
    | part _ _ _ _ _ _ => omega
    | again _ _ _ _ _ _ _ _ => omega
    | agree _ _ _ _ _ _ _ _ => omega
    | change _ _ _ _ _ _ _ _ => omega
    | wrong _ _ _ _ _ _ _ => omega
    | build _ _ _ _ _ _ => omega
    | state o =>
      refine ⟨_, rfl, q, CA, dx, _, _, rfl, hq, Y.cl, Y.nn, callF_n _ _ _ _, rfl, _, rfl, ifT (by decide) ?_⟩
      exact ⟨_, rfl, Bd, p, x, cv, ha, hv, rfl, hc, RM.same (a := (cluR x (.state o)).1) k hc⟩
    | node o f =>
      refine ⟨_, rfl, q, CA, dx, _, _, rfl, hq, Y.cl, Y.nn, callF_n _ _ _ _, rfl, _, rfl, ifF (by decide) ?_⟩
      refine ⟨_, rfl, q, CA, dx, _, _, rfl, hq, Y.cl, Y.nn, callF_n _ _ _ _, rfl, _, rfl, ifT (by decide) ?_⟩
      exact ⟨_, rfl, _, rfl, wa, _, _, _, rfl, rfl, SqL.of hwa, atI_nat (j := 1) rfl, Bd, p, x, cv, ha, hv, f, rfl, hc, RM.same (a := (cluR x (.node o f)).1) k hc⟩
    | lose o f =>
      refine ⟨_, rfl, q, CA, dx, _, _, rfl, hq, Y.cl, Y.nn, callF_n _ _ _ _, rfl, _, rfl, ifF (by decide) ?_⟩
      refine ⟨_, rfl, q, CA, dx, _, _, rfl, hq, Y.cl, Y.nn, callF_n _ _ _ _, rfl, _, rfl, ifF (by decide) ?_⟩
      refine ⟨_, rfl, q, CA, dx, _, _, rfl, hq, Y.cl, Y.nn, callF_n _ _ _ _, rfl, _, rfl, ifT (by decide) ?_⟩
      exact ⟨_, rfl, _, rfl, wa, _, _, _, rfl, rfl, SqL.of hwa, atI_nat (j := 1) rfl, Bd, p, x, cv, ha, hv, f, rfl, hc, k⟩
    | spoil o f j e =>
      obtain ⟨b0, rfl, hb0⟩ := lists1 hll hlv
      rw [ivs_bytes] at hb0
      refine ⟨_, rfl, q, CA, dx, _, _, rfl, hq, Y.cl, Y.nn, callF_n _ _ _ _, rfl, _, rfl, ifF (by decide) ?_⟩
      refine ⟨_, rfl, q, CA, dx, _, _, rfl, hq, Y.cl, Y.nn, callF_n _ _ _ _, rfl, _, rfl, ifF (by decide) ?_⟩
      refine ⟨_, rfl, q, CA, dx, _, _, rfl, hq, Y.cl, Y.nn, callF_n _ _ _ _, rfl, _, rfl, ifF (by decide) ?_⟩
      refine ⟨_, rfl, q, CA, dx, _, _, rfl, hq, Y.cl, Y.nn, callF_n _ _ _ _, rfl, _, rfl, ifT (by decide) ?_⟩
      exact ⟨_, rfl, _, rfl, wa, _, _, _, rfl, rfl, SqL.of hwa, atI_nat (j := 1) rfl, _, rfl, wa, _, _, _, rfl, rfl, SqL.of hwa, atI_nat (j := 2) rfl, _, rfl, la, _, _, _, rfl, rfl, SqL.of hla, atI_nat (j := 0) rfl, Bd, p, x, cv, ha, hv, f, j, _, e, rfl, hc, ⟨b0, rfl, hb0⟩, k⟩
    | mend o f m hm =>
      obtain ⟨b0, rfl, hb0⟩ := lists1 hll hlv
      rw [ivs_nI] at hb0
      refine ⟨_, rfl, q, CA, dx, _, _, rfl, hq, Y.cl, Y.nn, callF_n _ _ _ _, rfl, _, rfl, ifF (by decide) ?_⟩
      refine ⟨_, rfl, q, CA, dx, _, _, rfl, hq, Y.cl, Y.nn, callF_n _ _ _ _, rfl, _, rfl, ifF (by decide) ?_⟩
      refine ⟨_, rfl, q, CA, dx, _, _, rfl, hq, Y.cl, Y.nn, callF_n _ _ _ _, rfl, _, rfl, ifF (by decide) ?_⟩
      refine ⟨_, rfl, q, CA, dx, _, _, rfl, hq, Y.cl, Y.nn, callF_n _ _ _ _, rfl, _, rfl, ifF (by decide) ?_⟩
      refine ⟨_, rfl, q, CA, dx, _, _, rfl, hq, Y.cl, Y.nn, callF_n _ _ _ _, rfl, _, rfl, ifT (by decide) ?_⟩
      exact ⟨_, rfl, _, rfl, wa, _, _, _, rfl, rfl, SqL.of hwa, atI_nat (j := 1) rfl, _, rfl, la, _, _, _, rfl, rfl, SqL.of hla, atI_nat (j := 0) rfl, Bd, p, x, cv, ha, hv, f, _, m, rfl, hc, ⟨b0, rfl, hb0⟩, hm, k⟩
    | edit o i e =>
      obtain ⟨b0, rfl, hb0⟩ := lists1 hll hlv
      rw [ivs_bytes] at hb0
      refine ⟨_, rfl, q, CA, dx, _, _, rfl, hq, Y.cl, Y.nn, callF_n _ _ _ _, rfl, _, rfl, ifF (by decide) ?_⟩
      refine ⟨_, rfl, q, CA, dx, _, _, rfl, hq, Y.cl, Y.nn, callF_n _ _ _ _, rfl, _, rfl, ifF (by decide) ?_⟩
      refine ⟨_, rfl, q, CA, dx, _, _, rfl, hq, Y.cl, Y.nn, callF_n _ _ _ _, rfl, _, rfl, ifF (by decide) ?_⟩
      refine ⟨_, rfl, q, CA, dx, _, _, rfl, hq, Y.cl, Y.nn, callF_n _ _ _ _, rfl, _, rfl, ifF (by decide) ?_⟩
      refine ⟨_, rfl, q, CA, dx, _, _, rfl, hq, Y.cl, Y.nn, callF_n _ _ _ _, rfl, _, rfl, ifF (by decide) ?_⟩
      refine ⟨_, rfl, q, CA, dx, _, _, rfl, hq, Y.cl, Y.nn, callF_n _ _ _ _, rfl, _, rfl, ifT (by decide) ?_⟩
      exact ⟨_, rfl, _, rfl, wa, _, _, _, rfl, rfl, SqL.of hwa, atI_nat (j := 1) rfl, _, rfl, la, _, _, _, rfl, rfl, SqL.of hla, atI_nat (j := 0) rfl, Bd, p, x, cv, ha, hv, i, _, e, rfl, hc, ⟨b0, rfl, hb0⟩, k⟩
    | read o m hm =>
      obtain ⟨b0, rfl, hb0⟩ := lists1 hll hlv
      rw [ivs_nI] at hb0
      refine ⟨_, rfl, q, CA, dx, _, _, rfl, hq, Y.cl, Y.nn, callF_n _ _ _ _, rfl, _, rfl, ifF (by decide) ?_⟩
      refine ⟨_, rfl, q, CA, dx, _, _, rfl, hq, Y.cl, Y.nn, callF_n _ _ _ _, rfl, _, rfl, ifF (by decide) ?_⟩
      refine ⟨_, rfl, q, CA, dx, _, _, rfl, hq, Y.cl, Y.nn, callF_n _ _ _ _, rfl, _, rfl, ifF (by decide) ?_⟩
      refine ⟨_, rfl, q, CA, dx, _, _, rfl, hq, Y.cl, Y.nn, callF_n _ _ _ _, rfl, _, rfl, ifF (by decide) ?_⟩
      refine ⟨_, rfl, q, CA, dx, _, _, rfl, hq, Y.cl, Y.nn, callF_n _ _ _ _, rfl, _, rfl, ifF (by decide) ?_⟩
      refine ⟨_, rfl, q, CA, dx, _, _, rfl, hq, Y.cl, Y.nn, callF_n _ _ _ _, rfl, _, rfl, ifF (by decide) ?_⟩
      refine ⟨_, rfl, q, CA, dx, _, _, rfl, hq, Y.cl, Y.nn, callF_n _ _ _ _, rfl, _, rfl, ifT (by decide) ?_⟩
      exact ⟨_, rfl, _, rfl, la, _, _, _, rfl, rfl, SqL.of hla, atI_nat (j := 0) rfl, Bd, p, x, cv, ha, hv, _, m, rfl, hc, ⟨b0, rfl, hb0⟩, hm, RM.same (a := (cluR x (.read o m)).1) k hc⟩
    | look o =>
      refine ⟨_, rfl, q, CA, dx, _, _, rfl, hq, Y.cl, Y.nn, callF_n _ _ _ _, rfl, _, rfl, ifF (by decide) ?_⟩
      refine ⟨_, rfl, q, CA, dx, _, _, rfl, hq, Y.cl, Y.nn, callF_n _ _ _ _, rfl, _, rfl, ifF (by decide) ?_⟩
      refine ⟨_, rfl, q, CA, dx, _, _, rfl, hq, Y.cl, Y.nn, callF_n _ _ _ _, rfl, _, rfl, ifF (by decide) ?_⟩
      refine ⟨_, rfl, q, CA, dx, _, _, rfl, hq, Y.cl, Y.nn, callF_n _ _ _ _, rfl, _, rfl, ifF (by decide) ?_⟩
      refine ⟨_, rfl, q, CA, dx, _, _, rfl, hq, Y.cl, Y.nn, callF_n _ _ _ _, rfl, _, rfl, ifF (by decide) ?_⟩
      refine ⟨_, rfl, q, CA, dx, _, _, rfl, hq, Y.cl, Y.nn, callF_n _ _ _ _, rfl, _, rfl, ifF (by decide) ?_⟩
      refine ⟨_, rfl, q, CA, dx, _, _, rfl, hq, Y.cl, Y.nn, callF_n _ _ _ _, rfl, _, rfl, ifF (by decide) ?_⟩
      exact ⟨_, rfl, Bd, p, x, cv, ha, hv, rfl, hc, RM.same (a := (cluR x (.look o)).1) k hc⟩
theorem cc_code {n : Nat} {ns : List Nat} {xs : List (List Int)} {c : Sp.Call} (h : CC n ns xs c) (h8 : n < 8) (s : Sp.State) : Sp.step s c = (s, codeA c) := by
  cases h <;> first | rfl | omega
theorem cc_obj {n : Nat} {ns : List Nat} {xs : List (List Int)} {c : Sp.Call} (h : CC n ns xs c) (h9 : 9 ≤ n) : ∃ o r, ns = o :: r ∧ objOf c = some o := by
  cases h <;> first | exact ⟨_, _, rfl, rfl⟩ | omega
theorem cc_nil {n : Nat} {ns : List Nat} {xs : List (List Int)} {c : Sp.Call} (h : CC n ns xs c) : ∃ o r, ns = o :: r := by
  cases h <;> exact ⟨_, _, rfl⟩
def RS (Bd : Addr → Prop) (C CL : Addr) (H : Hp) (Q : VK) (ca : Addr) (s : Sp.State) (c : Sp.Call) : Prop :=
  ∀ (H' : Hp) (l : Addr), Keep H H' → H l = none → H' l = some (.lst (ivs (ansI (Sp.step s c).2))) → (ansI (Sp.step s c).2).length ≤ 4000 → StateAt Bd C CL H' ca (Sp.step s c).1 → Q (.ref l) H'
theorem RS.ra {C CL : Addr} {H : Hp} {Q : VK} {ca : Addr} {s : Sp.State} {c : Sp.Call} (k : RS Bd C CL H Q ca s c) (hs : StateAt Bd C CL H ca s) {a : Sp.Answer} (e : Sp.step s c = (s, a)) : RA H Q a := fun H' l m n h b => by
  unfold RS at k
  rw [e] at k
  exact k H' l (Same.keep m) n h b (hs.mono m)
theorem sc_answer_to : FnScope ["clusters", "call", "which"] ["clusters", "call"] (defScope (top 73)) := ⟨rfl, rfl, rfl, by decide +kernel, rfl, by decide +kernel, by decide +kernel⟩
def sp_answer_to (C CL CA : Addr) : L2.Sp := fun vs H Q _ => ∃ (Bd : Addr → Prop) (ca q : Addr) (s : Sp.State) (n : Nat) (ns : List Nat) (xs : List (List Int)) (c : Sp.Call), vs = [.ref ca, .ref q] ∧ StateAt Bd C CL H ca s ∧ IsCall CA H q n ns xs ∧ CC n ns xs c ∧ RS Bd C CL H Q ca s c
theorem ok_answer_to {f : Addr} {fd : FuncData} (F : Fun K "answer_to" "answer_to" (top 73) f fd) (cn : Cn mg) (B : Bi mg) (Y : Ca K CA) (g_code_from : Gd P w K mg base 3 "code_from" ["whole", "start"] (sp_code_from C)) (g_answer_of_code : Gd P w K mg base 7 "answer_of_code" ["call"] (sp_answer_of_code CA))
    (g_build : Gd P w K mg base 4 "build" ["clusters", "which", "code", "document"] (sp_build C CL)) (g_answer_of_cluster : Gd P w K mg base 8 "answer_of_cluster" ["cluster", "call"] (sp_answer_of_cluster C CL CA)) :
    FnOk P w K mg base CX0 9 f fd ["clusters", "call"] (sp_answer_to C CL CA) := by
  refine F.ok sc_answer_to (fun vs H Q E h => ?_) (fun cdv A outer s H vs Q E hr h => ?_)
  · obtain ⟨Bd, ca, q, s, n, ns, xs, c, rfl, _⟩ := h
    rfl
  · obtain ⟨Bd, ca, q, s, n, ns, xs, c, rfl, hst, hcall, hcc, k⟩ := h
    have c_NO_SUCH := cn.noSuch
    have c_NOT_BUILT := cn.notBuilt
    obtain ⟨dx, wa, la, lvs, ev, hq, hwa, hla, hll, hlv⟩ := hcall
    refine ⟨_, (pss_cons (ps_if (pt_cmpR op_lt (pe_fld (pv 1) rfl) pe_int (nomark _)) (pss_one (ps_ret (pe_g g_answer_of_code (hr.mono (by decide)) rfl (pa_cons (pv 1) pa_nil)))) pss_nil)
      (pss_cons (ps_set (i := 2) sc_answer_to.nd rfl (Or.inl rfl) (pe_ix ix_list (pe_fld (pv 1) rfl) pe_int (fun _ _ => rfl)))
      (pss_cons (ps_if (pt_cmpR op_eq (pe_fld (pv 1) rfl) pe_int (nomark _)) (pss_one (ps_ret (pe_g g_build (hr.mono (by decide)) rfl (pa_cons (pv 0) (pa_cons (pv 2) (pa_cons (pe_g g_code_from (hr.mono (by decide)) rfl (pa_cons (pe_fld (pv 1) rfl) (pa_cons pe_int pa_nil))) (pa_cons (pe_ix ix_list (pe_fld (pv 1) rfl) pe_int (fun _ _ => rfl)) pa_nil))))))) pss_nil)
      (pss_cons (ps_if (pt_cmpR op_ge (pv 2) (pe_callB call_len_seq rfl B.len PySem.boot_len (pa_cons (pv 0) pa_nil)) (nomark _)) (pss_one (ps_ret (pe_lst (pa_cons (pe_ci c_NO_SUCH rfl) pa_nil)))) pss_nil)
      (pss_cons (ps_if (pt_cmpR op_isN (pe_ix ix_list (pv 0) (pv 2) (fun _ _ => rfl)) pe_non (nomark _)) (pss_one (ps_ret (pe_lst (pa_cons (pe_ci c_NOT_BUILT rfl) pa_nil)))) pss_nil)
      (pss_one (ps_ret (pe_g g_answer_of_cluster (hr.mono (by decide)) rfl (pa_cons (pe_ix ix_list (pv 0) (pv 2) (fun _ _ => rfl)) (pa_cons (pv 1) pa_nil)))))))))), ?_⟩
    refine ⟨_, rfl, q, CA, dx, _, _, rfl, hq, Y.cl, Y.nn, callF_n _ _ _ _, _, _, rfl, rfl, _, rfl, ite2 (fun h => ?_) (fun h => ?_)⟩
    · have h8 : n < 8 := by have := of_decide_eq_true h; omega
      exact ⟨_, rfl, q, n, ns, xs, c, rfl, ⟨dx, wa, la, lvs, ev, hq, hwa, hla, hll, hlv⟩, hcc, h8, k.ra hst (cc_code hcc h8 s)⟩
    have h8 : 8 ≤ n := by
      have : ¬ ((n : Int) < 8) := fun z => h (decide_eq_true z)
      omega
    obtain ⟨o, rn, hns⟩ := cc_nil hcc
    refine ⟨_, rfl, q, CA, dx, _, _, rfl, hq, Y.cl, Y.nw, callF_w _ _ _ _, wa, _, _, nv o, rfl, rfl, SqL.of hwa, atI_nat (j := 0) (by rw [hns]; rfl), ?_⟩
    refine ⟨_, rfl, q, CA, dx, _, _, rfl, hq, Y.cl, Y.nn, callF_n _ _ _ _, rfl, _, rfl, ite2 (fun h => ?_) (fun h => ?_)⟩
    · have h8 : n = 8 := by have := V.int.inj (of_decide_eq_true h); omega
      cases hcc with
      | build o' k' d n l b =>
        cases hns
        obtain ⟨b0, rfl, hb0⟩ := lists1 hll hlv
        rw [ivs_bytes] at hb0
        refine ⟨_, rfl, _, rfl, _, rfl, q, CA, dx, _, _, rfl, hq, Y.cl, Y.nw, callF_w _ _ _ _, wa, _, 1, rfl, hwa, by show _ < _; simp, fun H1 v1 s1 hcode => ?_⟩
        obtain ⟨cvs, hs, hin⟩ := hst
        have hin1 := hin.mono s1
        refine ⟨_, rfl, q, CA, dx, _, _, rfl, s1 _ _ hq, Y.cl, Y.nl, callF_l _ _ _ _, la, _, _, _, rfl, rfl, SqL.of (s1 _ _ hla), atI_nat (j := 0) rfl, ?_⟩
        refine ⟨Bd, ca, cvs, o, v1, _, ⟨k', d, n, l⟩, b, rfl, hin1.lst, hin1.len, hin1.soft, hcode, ⟨b0, rfl, s1 _ _ hb0⟩, hin1.bd, ?_⟩
        have es : Sp.step s (.build o ⟨k', d, n, l⟩ b) = if 1 < o ∨ (⟨k', d, n, l⟩ : Sp.Code).ok = false then (s, Sp.says (-1)) else if b.length ≠ (⟨k', d, n, l⟩ : Sp.Code).holds * l then (s, Sp.says (-5)) else (Sp.set s o ⟨⟨k', d, n, l⟩, (List.range n).map fun (f : Nat) => some ((⟨k', d, n, l⟩ : Sp.Code).rows (Sp.rowsOf l (⟨k', d, n, l⟩ : Sp.Code).holds b) f)⟩, Sp.says 0) := rfl
        unfold RBd
        by_cases h1 : 1 < o ∨ (⟨k', d, n, l⟩ : Sp.Code).ok = false
        · rw [if_pos h1]
          rw [if_pos h1] at es
          exact (k.ra ⟨cvs, hs, hin⟩ es).mono s1
        rw [if_neg h1]
        rw [if_neg h1] at es
        by_cases h2 : b.length ≠ (⟨k', d, n, l⟩ : Sp.Code).holds * l
        · rw [if_pos h2]
          rw [if_pos h2] at es
          exact (k.ra ⟨cvs, hs, hin⟩ es).mono s1
        rw [if_neg h2]
        rw [if_neg h2] at es
        intro H2 l2 p ha hv m hl2 e2 eca nha nal hcl
        have ho : o < 2 := by
          rcases Nat.lt_or_ge o 2 with z | z
          · exact z
          · exact absurd (.inl (by omega)) h1
        have hk1 := (Same.keep s1).trans (keep_hid hin1.lst hin1.soft m)
        unfold RS at k
        rw [es] at k
        exact k H2 l2 hk1 (s1.free hl2) e2 (by rw [ans_says]; show 1 ≤ 4000; decide) ⟨_, _, hin1.put ho m eca nha hcl⟩
      | judge _ _ _ _ => omega
      | store _ _ _ _ _ _ => omega
      | tell _ _ _ _ _ _ _ => omega
      | part _ _ _ _ _ _ => omega
      | again _ _ _ _ _ _ _ _ => omega
      | agree _ _ _ _ _ _ _ _ => omega
      | change _ _ _ _ _ _ _ _ => omega
      | wrong _ _ _ _ _ _ _ => omega
      | state _ => omega
      | node _ _ => omega
      | lose _ _ => omega
      | spoil _ _ _ _ => omega
      | mend _ _ _ _ => omega
      | edit _ _ _ => omega
      | read _ _ _ => omega
      | look _ => omega
    have h9 : 9 ≤ n := by
      have : n ≠ 8 := fun e => h (by rw [e]; rfl)
      omega
    obtain ⟨o', rn', hns', hobj⟩ := cc_obj hcc h9
    have eo : o' = o := by rw [hns] at hns'; injection hns' with e _; exact e.symm
    subst eo
    obtain ⟨cvs, hs, hin⟩ := hst
    obtain ⟨fw, hfw⟩ := step_with (s := s) hobj
    refine ⟨_, rfl, _, rfl, ca, _, rfl, .inl (SqL.of hin.lst), _, _, rfl, rfl, _, rfl, ite2 (fun h => ?_) (fun h => ?_)⟩
    · have h := of_decide_eq_true h
      have ho : 1 < o' := by have := hin.len; omega
      exact ⟨z1L, fun l hl => (k.ra ⟨cvs, hs, hin⟩ (hfw.trans (with_far ho fw))).one (.refl _) hl⟩
    have ho : o' < 2 := by
      have : ¬ ((cvs.length : Int) ≤ (o' : Int)) := fun z => h (decide_eq_true z)
      have := hin.len
      omega
    have hat := hin.at_ o' ho
    cases hx : s.getD o' none with
    | none =>
      rw [hx] at hat
      have hat : cvs[o']? = some .non := hat
      refine ⟨_, rfl, _, rfl, ca, _, _, V.non, rfl, rfl, SqL.of hin.lst, at_of rfl hat, rfl, _, rfl, iteT ?_⟩
      exact ⟨z1L, fun l hl => (k.ra ⟨cvs, hs, hin⟩ (hfw.trans (with_none ho hx fw))).one (.refl _) hl⟩
    | some x =>
      rw [hx] at hat
      obtain ⟨p, cv, hv, hp, hc, hne⟩ := hat
      refine ⟨_, rfl, _, rfl, ca, _, _, V.ref p, rfl, rfl, SqL.of hin.lst, at_of rfl hp, rfl, _, rfl, iteF ?_⟩
      refine ⟨_, rfl, _, rfl, ca, _, _, V.ref p, rfl, rfl, SqL.of hin.lst, at_of rfl hp, _, rfl, ?_⟩
      refine ⟨Bd, p, q, x, cv, hs o', hv, n, ns, xs, c, rfl, hc, ⟨dx, wa, la, lvs, ev, hq, hwa, hla, hll, hlv⟩, hcc, h9, fun H' l hv' m hl e hh hn b => ?_⟩
      have es := step_clu (s := s) hobj ho hx
      unfold RS at k
      rw [es] at k
      exact k H' l (keep_hid hc.held (hc.nodes.soft hc.ok) m) hl e b ⟨cvs, hs, hin.change ho hx hp hc hne m hh hn⟩
end
end Sn
end
section
set_option maxHeartbeats 4000000
namespace Sn
open PySem PySem.Spec PyProof.Rows L2
theorem rows_bound : ∀ {k : Nat} {l t : List Int} {xs : List (List Int)}, PyFlat.rows k l = some (xs, t) → ∀ x ∈ xs, x.length ≤ l.length
  | 0, l, t, xs, h, x, hx => by cases h; cases hx
  | k + 1, l, t, xs, h, x, hx => by
    obtain ⟨y, s, xs', h1, h2, rfl⟩ := rows_inv h
    obtain ⟨n, r, rfl, h4, h5, h6⟩ := row_inv h1
    rcases List.mem_cons.mp hx with e | e
    · rw [e, h5, List.length_take, List.length_cons]
      omega
    · have := rows_bound h2 x e
      rw [h6, List.length_drop] at this
      rw [List.length_cons]
      omega
theorem call_inv {l : List Int} {c : List (List Int)} {t : List Int} (h : PyFlat.call PyWrswsp.shape l = some (c, t)) : ∃ p r n k xs, l = p :: r ∧ PyWrswsp.shape p = some (n, k) ∧ n ≤ r.length ∧ PyFlat.rows k (r.drop n) = some (xs, t) ∧ c = (p :: r.take n) :: xs := by
  cases l with
  | nil => cases h
  | cons p r =>
    have h : (match PyWrswsp.shape p with
      | none => none
      | some (n, k) => if r.length < n then none else match PyFlat.rows k (r.drop n) with
        | none => none
        | some (xs, t) => some ((p :: r.take n) :: xs, t)) = some (c, t) := h
    cases e : PyWrswsp.shape p with
    | none => rw [e] at h; cases h
    | some nk =>
      obtain ⟨n, k⟩ := nk
      rw [e] at h
      have h : (if r.length < n then none else match PyFlat.rows k (r.drop n) with
        | none => none
        | some (xs, t) => some ((p :: r.take n) :: xs, t)) = some (c, t) := h
      by_cases hn : r.length < n
      · rw [if_pos hn] at h; cases h
      · rw [if_neg hn] at h
        cases e2 : PyFlat.rows k (r.drop n) with
        | none => rw [e2] at h; cases h
        | some y =>
          obtain ⟨xs, t'⟩ := y
          rw [e2] at h
          cases h
          exact ⟨p, r, n, k, xs, rfl, e, by omega, e2, rfl⟩
theorem calls_inv {f : Nat} {p : Int} {r : List Int} {cs : List (List (List Int))} (h : PyFlat.calls PyWrswsp.shape f (p :: r) = some cs) : ∃ f' c t cs', f = f' + 1 ∧ PyFlat.call PyWrswsp.shape (p :: r) = some (c, t) ∧ PyFlat.calls PyWrswsp.shape f' t = some cs' ∧ cs = c :: cs' := by
  cases f with
  | zero => cases h
  | succ f =>
    unfold PyFlat.calls at h
    split at h
    · cases h
    · rename_i c t e
      split at h
      · cases h
      · rename_i cs' e2
        cases h
        exact ⟨f, c, t, cs', rfl, e, e2, rfl⟩
theorem asked_inv {ls : List Int} (h : PyWrswsp.answers_asked ls = true) : ∃ cs, PyFlat.calls PyWrswsp.shape ls.length ls = some cs ∧ cs.length ≤ 300 ∧ SpNeutral.asked (cs.map PyWrswsp.whole) = true ∧ PyWrswsp.answers ls = PyFlat.told (PyFlat.played SpNeutral.step SpNeutral.start (cs.map PyWrswsp.whole)) := by
  unfold PyWrswsp.answers_asked PyWrswsp.calls at h
  unfold PyWrswsp.answers PyWrswsp.calls
  cases e : PyFlat.calls PyWrswsp.shape ls.length ls with
  | none => rw [e] at h; cases h
  | some cs =>
    rw [e] at h
    have h : (PyFlat.atMost 300 (cs.map PyWrswsp.whole) && SpNeutral.asked (cs.map PyWrswsp.whole)) = true := h
    rw [Bool.and_eq_true] at h
    have h1 : (cs.map PyWrswsp.whole).length ≤ 300 := of_decide_eq_true h.1
    exact ⟨cs, rfl, by rw [List.length_map] at h1; exact h1, h.2, rfl⟩
theorem keep_hidm {H H' : Hp} {m : Addr} (k : Keep H H') : Keep (hid m H) (hid m H') := fun b o e n => by
  have hb : b ≠ m := fun z => by subst z; unfold hid at e; rw [if_pos rfl] at e; cases e
  exact hid_at (k _ _ (hid_same _ _ _ _ e) n) hb
theorem ivs_app (a b : List Int) : ivs a ++ ivs b = ivs (a ++ b) := by unfold ivs; rw [List.map_append]
section
variable {P : Program} {w : World} {K : PySem.W.Frag} {mg : Str → Option Value} {base : Heap} {C CL CA : Addr}
theorem sc_answers : FnScope ["calls", "clusters", "given", "at", "call", "answer"] ["calls"] (defScope (top 74)) := ⟨rfl, rfl, rfl, by decide +kernel, rfl, by decide +kernel, by decide +kernel⟩
def sp_answers (K : PySem.W.Frag) : L2.Sp := fun vs H Q _ => ∃ (a : Addr) (ls : List Int), vs = [.ref a] ∧ SqL K H a (ivs ls) ∧ ls.length ≤ 32768 ∧ PyWrswsp.answers_asked ls = true ∧ ∀ (H' : Hp) (p : Addr), H' p = some (.lst (ivs (PyWrswsp.answers ls))) → Q (.ref p) H'
theorem ok_answers {f : Addr} {fd : FuncData} (F : Fun K "answers" "answers" (top 74) f fd) (B : Bi mg) (Y : Ca K CA) (g_call_at : Gd P w K mg base 3 "call_at" ["calls", "start"] (sp_call_at K CA)) (g_answer_to : Gd P w K mg base 9 "answer_to" ["clusters", "call"] (sp_answer_to C CL CA)) :
    FnOk P w K mg base CX0 10 f fd ["calls"] (sp_answers K) := by
  refine F.ok sc_answers (fun vs H Q E h => ?_) (fun cdv A outer s H vs Q E hr h => ?_)
  · obtain ⟨a, ls, rfl, _⟩ := h
    rfl
  · obtain ⟨a, ls, rfl, hS, hl, hask, k⟩ := h
    obtain ⟨cs0, hcs0, h300, hasked, hans⟩ := asked_inv hask
    refine ⟨_, (pss_cons (ps_set (i := 1) sc_answers.nd rfl (Or.inl rfl) (pe_lst (pa_cons pe_non (pa_cons pe_non pa_nil))))
      (pss_cons (ps_set (i := 2) sc_answers.nd rfl (Or.inl rfl) (pe_lst pa_nil))
      (pss_cons (ps_set (i := 3) sc_answers.nd rfl (Or.inl rfl) pe_int)
      (pss_cons (ps_while PassesOwn.never (pt_cmpR op_lt (pv 3) (pe_callB call_len_seq rfl B.len PySem.boot_len (pa_cons (pv 0) pa_nil)) (nomark _)) (pss_cons (ps_set (i := 4) sc_answers.nd rfl (Or.inl rfl) (pe_g g_call_at (hr.mono (by decide)) rfl (pa_cons (pv 0) (pa_cons (pv 3) pa_nil))))
      (pss_cons (ps_set (i := 5) sc_answers.nd rfl (Or.inl rfl) (pe_g g_answer_to (hr.mono (by decide)) rfl (pa_cons (pv 1) (pa_cons (pv 4) pa_nil))))
      (pss_cons (ps_expr (pe_bm PySem.F.plainAttrs_list PySem.F.slot_list_append PySem.F.type_list_append mt_append (pv 2) (pa_cons (pe_callB call_len_seq rfl B.len PySem.boot_len (pa_cons (pv 5) pa_nil)) pa_nil)))
      (pss_cons (ps_expr (pe_bm PySem.F.plainAttrs_list PySem.F.slot_list_extend PySem.F.type_list_extend mt_extend (pv 2) (pa_cons (pv 5) pa_nil)))
      (pss_one (ps_set (i := 3) sc_answers.nd rfl (Or.inl rfl) (pe_fld (pv 4) rfl))))))))
      (pss_one (ps_ret (pv 2))))))), ?_⟩
    refine ⟨by show 2 ≤ 2 ^ 24; decide, fun ca hca => ?_⟩
    have s1 : Same H (upd H ca (.lst [V.non, V.non])) := .new hca
    refine ⟨z0L, fun ga hga => ?_⟩
    have s2 : Same (upd H ca (.lst [V.non, V.non])) (upd (upd H ca (.lst [V.non, V.non])) ga (.lst [])) := .new hga
    refine while_by (fun σ H1 => ∃ (j : Nat) (st : Sp.State) (f : Nat) (cs : List (List (List Int))) (g : List Int) (m : Nat) (r4 r5 : Option V), σ = [some (V.ref a), some (V.ref ca), some (V.ref ga), some (nv j), r4, r5] ∧ SqL K (hid ga H1) a (ivs ls) ∧ StateAt (fun b => b = ga) C CL H1 ca st ∧ H1 ga = some (.lst (ivs g)) ∧
        PyFlat.calls PyWrswsp.shape f (ls.drop j) = some cs ∧ m + cs.length ≤ 300 ∧ g.length ≤ m * 4001 ∧ SpNeutral.asked (cs.map PyWrswsp.whole) = true ∧ g ++ PyFlat.told (PyFlat.played SpNeutral.step st (cs.map PyWrswsp.whole)) = PyWrswsp.answers ls ∧ j ≤ ls.length)
      (fun σ _ => match σ with
        | _ :: _ :: _ :: some (.int z) :: _ => ls.length - z.toNat
        | _ => 0) ?_ ?_ ?_
    · refine ⟨0, Sp.start, ls.length, cs0, [], 0, none, none, rfl, (s2.hid hga).seq (s1.seq hS), ⟨[V.non, V.non], fun _ => ca, s2 _ _ upd_same, rfl, rfl, fun i hi => ?_, fun i j hi hj hij h1 h2 => ?_, fun b hb => ⟨.lst [], by rw [hb]; exact upd_same, hard_ints []⟩⟩, upd_same, ?_, by omega, by simp, hasked, hans.symm, Nat.zero_le _⟩
      · match i, hi with
        | 0, _ => rfl
        | 1, _ => rfl
      · match i, hi, h1 with
        | 0, _, h1 => cases h1
        | 1, _, h1 => cases h1
      · rw [List.drop_zero]
        exact hcs0
    · rintro σ H1 ⟨j, st, f, cs, g, m, r4, r5, rfl, hS0, hst, hga1, hcs, hm, hg, hak, he, hj⟩
      have hS1 := (hid_same ga H1).seq hS0
      refine ⟨_, rfl, _, rfl, a, _, rfl, .inl hS1, _, _, rfl, rfl, _, rfl, ite2 (fun h => ?_) (fun h => ?_)⟩
      · rw [ivs_len] at h
        have h := of_decide_eq_true h
        have hjl : j < ls.length := by omega
        obtain ⟨p, r, hd⟩ : ∃ p r, ls.drop j = p :: r := ⟨_, _, List.drop_eq_getElem_cons hjl⟩
        rw [hd] at hcs
        obtain ⟨f', c, t, cs', rfl, hcall, hcs', rfl⟩ := calls_inv hcs
        obtain ⟨p', r', n, kk, xs, hpr, hsh, hn, hro, rfl⟩ := call_inv hcall
        cases hpr
        have hak : (SpNeutral.asked1 (PyWrswsp.whole ((p :: r.take n) :: xs)) && (cs'.map PyWrswsp.whole).all SpNeutral.asked1) = true := hak
        rw [Bool.and_eq_true] at hak
        have hrl : r.length ≤ ls.length := by
          have := congrArg List.length hd
          rw [List.length_drop, List.length_cons] at this
          omega
        obtain ⟨i, x, hp, hwh, hof, hns, hcc⟩ := cc_of hsh (by rw [List.length_take]; omega) (rows_len hro) (fun x hx => by have := rows_bound hro x hx; rw [List.length_drop] at this; omega) hak.1
        refine ⟨_, rfl, _, rfl, a, ls, j, p, r, n, kk, xs, t, rfl, hS1, hd, hsh, hn, hro, by omega, fun H2 q dx wa la lvs e s3 hq hwa hla hll hlv hte hel hje => ?_⟩
        have hwa' : H2 wa = some (.lst (nvs (Lines.nats (r.take n)))) := by
          rw [hwa, ← ivs_nI, hns]
        refine ⟨_, rfl, _, rfl, fun b => b = ga, ca, q, st, i, Lines.nats (r.take n), xs, x, rfl, hst.mono s3, ⟨dx, wa, la, lvs, nv e, by rw [hq, hp]; rfl, hwa', hla, hll, hlv⟩, hcc, fun H3 l kp nl el hb hst3 => ?_⟩
        have hga2 := s3 _ _ hga1
        have hga3 := kp _ _ hga2 (hard_ints _)
        have hq3 := kp _ _ hq hard_ins
        have nlg : l ≠ ga := fun z => by rw [z, hga2] at nl; cases nl
        have nqg : q ≠ ga := fun z => by rw [z, hga2] at hq; cases hq
        have hstep := step_ans (s := st) hof
        have m300 : m ≤ 300 := by omega
        have hm4 : m * 4001 ≤ 300 * 4001 := Nat.mul_le_mul_right _ m300
        refine ⟨_, rfl, .inl ⟨rfl, _, SqL.of hga3⟩, _, rfl, l, _, rfl, .inl (SqL.of el), ga, _, _, rfl, rfl, hga3, by rw [ivs_len]; show _ < 2 ^ 24; omega, ?_⟩
        rw [ivs_len]
        have el4 : (upd H3 ga (.lst (ivs g ++ [V.int ((ansI (Sp.step st x).2).length : Nat)]))) l = some (.lst (ivs (ansI (Sp.step st x).2))) := by rw [upd_ne nlg]; exact el
        refine ⟨_, rfl, .inl ⟨rfl, _, SqL.of upd_same⟩, _, rfl, ga, l, _, _, rfl, rfl, upd_same, el4, by rw [List.length_append, ivs_len, ivs_len]; show _ + 1 + _ ≤ 2 ^ 24; omega, ?_⟩
        rw [upd_upd]
        have eg : ivs g ++ [V.int ((ansI (Sp.step st x).2).length : Nat)] ++ ivs (ansI (Sp.step st x).2) = ivs (g ++ ((ansI (Sp.step st x).2).length : Int) :: ansI (Sp.step st x).2) := by
          rw [← ivs_app, List.append_assoc]
          rfl
        rw [eg]
        have hsame : Same (hid ga H3) (hid ga (upd H3 ga (.lst (ivs (g ++ ((ansI (Sp.step st x).2).length : Int) :: ansI (Sp.step st x).2))))) := by rw [hid_upd]; exact .refl _
        refine ⟨_, rfl, q, CA, dx, _, _, rfl, by rw [upd_ne nqg]; exact hq3, Y.cl, Y.ne, callF_e _ _ _ _, ?_⟩
        obtain ⟨cvs, hs, hin⟩ := hst3
        refine ⟨⟨e, (Sp.step st x).1, f', cs', _, m + 1, _, _, rfl, ?_, ⟨cvs, hs, hin.write hga3 hsame upd_same⟩, upd_same, ?_, by rw [List.length_cons] at hm; omega, ?_, hak.2, ?_, hel⟩, ?_⟩
        · rw [hid_upd]
          exact (keep_hidm kp).seq ((hid_mono s3).seq hS0)
        · rw [hte]; exact hcs'
        · rw [List.length_append, List.length_cons, Nat.add_mul]
          omega
        · rw [← he]
          show g ++ _ ++ PyFlat.told (PyFlat.played SpNeutral.step (Sp.step st x).1 (cs'.map PyWrswsp.whole)) = g ++ PyFlat.told ((SpNeutral.step st (PyWrswsp.whole ((p :: r.take n) :: xs))).2 :: PyFlat.played SpNeutral.step (SpNeutral.step st (PyWrswsp.whole ((p :: r.take n) :: xs))).1 (cs'.map PyWrswsp.whole))
          rw [hwh, hstep, List.append_assoc]
          rfl
        · show ls.length - ((e : Int)).toNat < ls.length - ((j : Int)).toNat
          omega
      · rw [ivs_len] at h
        have hjl : ls.length ≤ j := by
          have : ¬ ((j : Int) < (ls.length : Int)) := fun z => h (decide_eq_true z)
          omega
        rw [List.drop_eq_nil_of_le hjl] at hcs
        have hcs : cs = [] := by
          cases f <;> exact (Option.some.inj hcs).symm
        subst hcs
        have he : g ++ [] = PyWrswsp.answers ls := he
        rw [List.append_nil] at he
        exact ⟨_, rfl, k H1 ga (by rw [← he]; exact hga1)⟩
    · rintro σ H1 Q1 Q2 hq h
      obtain ⟨v, e1, u, e2, p, ys, e3, hsq, i, j, e4, e5, kk, e6, q⟩ := h
      exact ⟨v, e1, u, e2, p, ys, e3, hsq, i, j, e4, e5, kk, e6, hq _ _ q⟩
end
end Sn
end
section
set_option maxHeartbeats 4000000
namespace Sn
open PySem PySem.Spec PyProof.Rows L2
theorem len1 {us : List Value} (h : us.length = 1) : ∃ a, us = [a] := List.length_eq_one_iff.mp h
theorem lenS {us : List Value} {n : Nat} (h : us.length = n + 1) : ∃ a r, us = a :: r ∧ r.length = n := by
  cases us with
  | nil => cases h
  | cons a r => exact ⟨a, r, rfl, by simpa using h⟩
theorem len2 {us : List Value} (h : us.length = 2) : ∃ a b, us = [a, b] := by
  obtain ⟨a, r, rfl, q⟩ := lenS h
  obtain ⟨b, rfl⟩ := len1 q
  exact ⟨a, b, rfl⟩
theorem len3 {us : List Value} (h : us.length = 3) : ∃ a b c, us = [a, b, c] := by
  obtain ⟨a, r, rfl, q⟩ := lenS h
  obtain ⟨b, c, rfl⟩ := len2 q
  exact ⟨a, b, c, rfl⟩
theorem len4 {us : List Value} (h : us.length = 4) : ∃ a b c d, us = [a, b, c, d] := by
  obtain ⟨a, r, rfl, q⟩ := lenS h
  obtain ⟨b, c, d, rfl⟩ := len3 q
  exact ⟨a, b, c, d, rfl⟩
theorem len5 {us : List Value} (h : us.length = 5) : ∃ a b c d e, us = [a, b, c, d, e] := by
  obtain ⟨a, r, rfl, q⟩ := lenS h
  obtain ⟨b, c, d, e, rfl⟩ := len4 q
  exact ⟨a, b, c, d, e, rfl⟩
def DF (K : PySem.W.Frag) (x : Str) (st : Stmt) : Prop := ∃ f fd, PySem.W.nsIn K mainGlobals x = some (some (.ref f)) ∧ Fun K x x st f fd
theorem df {K : PySem.W.Frag} {x : Str} {st : Stmt} {f : Addr} {oc kV doc pm cdv ct : Value} {od an : Option Addr} {osl : Array (Option Value)} (a : PySem.W.nsIn K mainGlobals x = some (some (.ref f)))
    (l : K.lookup f = some ⟨oc, od, .func (PySem.W.fnOf x x (defArgs st) (defBody st) (defScope st) .none kV doc pm an cdv ct), osl⟩) (c : PySem.W.codeIn K cdv x = true) (k : PySem.W.keepIn K (.ref f) = true) : DF K x st := ⟨f, _, a, fun_mk l c k⟩
structure KF (K : PySem.W.Frag) (x qual : Str) (st : Stmt) (C : Addr) : Prop where
  ns : PySem.W.nsIn K mainGlobals x = some (some (.ref C))
  cls : Cls K C
  ex : ∃ f fd, Mk K C f ∧ Fun K "__init__" qual st f fd
theorem kf {K : PySem.W.Frag} {x qual : Str} {st : Stmt} {C f : Addr} {oc kV doc pm cdv ct : Value} {od an : Option Addr} {osl : Array (Option Value)} (aC : PySem.W.nsIn K mainGlobals x = some (some (.ref C)))
    (a1 : PySem.W.findIn K (.ref C) "__init__" = some (some (.ref f))) (i1 : PySem.W.isFn K (.ref f) = true) (l1 : K.lookup f = some ⟨oc, od, .func (PySem.W.fnOf "__init__" qual (defArgs st) (defBody st) (defScope st) .none kV doc pm an cdv ct), osl⟩)
    (c1 : PySem.W.codeIn K cdv qual = true) (k1 : PySem.W.keepIn K (.ref f) = true) (pg : PySem.W.plainGet K C Str.empty = true) (hd : PySem.W.hasDictIn K C = true) (po : PySem.W.plainOver K C = true) (sa : PySem.W.findIn K (.ref C) "__setattr__" = some (some (.builtin "object.__setattr__")))
    (mk : PySem.W.makesIn K C = true) (kc : PySem.W.keepIn K (.ref C) = true) : KF K x qual st C := ⟨aC, ⟨pg, hd, po, sa⟩, f, _, ⟨mk, a1, i1, kc⟩, fun_mk l1 c1 k1⟩
def NA (K : PySem.W.Frag) (C : Addr) (x : Str) : Prop := PySem.W.findIn K (.ref C) x = some none
def CIn (K : PySem.W.Frag) (x : Str) (i : Int) : Prop := ∃ t, PySem.W.nsIn K mainGlobals x = some (some (.int i t))
def NIn (K : PySem.W.Frag) (x : Str) : Prop := PySem.W.nsIn K mainGlobals x = some none
theorem rel_abs {x : V} {u : Value} (h : absV u = some x) : RelV x u := by
  cases u <;> first | (cases h; rfl) | (cases h; exact ⟨_, rfl⟩) | cases h
theorem ci_mk {K : PySem.W.Frag} {x : Str} {v : Value} {i : Int} (e : PySem.W.nsIn K mainGlobals x = some (some v)) (h : absV v = some (V.int i)) : CIn K x i := by
  obtain ⟨t, rfl⟩ := rel_abs h
  exact ⟨t, e⟩
theorem vals_abs : ∀ {xs : List V} {us : List Value}, us.map absV = xs.map some → Vals xs us
  | [], [], _ => .nil
  | [], _ :: _, h => by cases h
  | _ :: _, [], h => by cases h
  | x :: xs, u :: us, h => by
    rw [List.map_cons, List.map_cons] at h
    injection h with h1 h2
    exact .cons (rel_abs h1) (vals_abs h2)
theorem tup_of {K : PySem.W.Frag} {a : Addr} {od : Option Addr} {its : Array Value} {n : Nat} {sl : Array (Option Value)} {xs : List V} (l : K.lookup a = some ⟨.type "tuple", od, .seq its n, sl⟩) (hz : its.size ≤ sizeLine) (e : its.toList.map absV = xs.map some) (H : Hp) : SqT K H a xs :=
  .inr ⟨_, its, n, l, rfl, rfl, hz, vals_abs e⟩
def TabIn (K : PySem.W.Frag) (x : Str) (xs : List V) : Prop := ∃ a, PySem.W.nsIn K mainGlobals x = some (some (.ref a)) ∧ ∀ H : Hp, SqT K H a xs
theorem tab_mk {K : PySem.W.Frag} {x : Str} {a : Addr} {od : Option Addr} {its : Array Value} {n : Nat} {sl : Array (Option Value)} {xs : List V} (m : PySem.W.nsIn K mainGlobals x = some (some (.ref a))) (l : K.lookup a = some ⟨.type "tuple", od, .seq its n, sl⟩) (hz : its.size ≤ sizeLine) (e : its.toList.map absV = xs.map some) : TabIn K x xs :=
  ⟨a, m, fun H => tup_of l hz e H⟩
def ShIn (K : PySem.W.Frag) : Prop := ∃ (aS : Addr) (as : Nat → Addr), PySem.W.nsIn K mainGlobals "SHAPES" = some (some (.ref aS)) ∧ (∀ H : Hp, SqT K H aS ((List.range 17).map fun i => V.ref (as i))) ∧ ∀ i, i < 17 → ∀ H : Hp, SqT K H (as i) [nv (SHP.getD i (0, 0)).1, nv (SHP.getD i (0, 0)).2]
theorem pair_mk {K : PySem.W.Frag} {a : Addr} {od : Option Addr} {u v : Value} {n : Nat} {sl : Array (Option Value)} {x y : Nat} (l : K.lookup a = some ⟨.type "tuple", od, .seq #[u, v] n, sl⟩) (e1 : absV u = some (nv x)) (e2 : absV v = some (nv y)) : ∀ H : Hp, SqT K H a [nv x, nv y] := fun H =>
  tup_of (xs := [nv x, nv y]) l (by show 2 ≤ 2 ^ 24; decide) (by show [absV u, absV v] = [some (nv x), some (nv y)]; rw [e1, e2]) H
theorem sh_mk {K : PySem.W.Frag} {aS s0 s1 s2 s3 s4 s5 s6 s7 s8 s9 s10 s11 s12 s13 s14 s15 s16 : Addr} {od : Option Addr} {n : Nat} {sl : Array (Option Value)} (m : PySem.W.nsIn K mainGlobals "SHAPES" = some (some (.ref aS))) (l : K.lookup aS = some ⟨.type "tuple", od, .seq #[.ref s0, .ref s1, .ref s2, .ref s3, .ref s4, .ref s5, .ref s6, .ref s7, .ref s8, .ref s9, .ref s10, .ref s11, .ref s12, .ref s13, .ref s14, .ref s15, .ref s16] n, sl⟩)
    (p0 : ∀ H : Hp, SqT K H s0 [nv 4, nv 0])
    (p1 : ∀ H : Hp, SqT K H s1 [nv 5, nv 1])
    (p2 : ∀ H : Hp, SqT K H s2 [nv 4, nv 2])
    (p3 : ∀ H : Hp, SqT K H s3 [nv 5, nv 1])
    (p4 : ∀ H : Hp, SqT K H s4 [nv 5, nv 2])
    (p5 : ∀ H : Hp, SqT K H s5 [nv 6, nv 2])
    (p6 : ∀ H : Hp, SqT K H s6 [nv 6, nv 2])
    (p7 : ∀ H : Hp, SqT K H s7 [nv 4, nv 2])
    (p8 : ∀ H : Hp, SqT K H s8 [nv 5, nv 1])
    (p9 : ∀ H : Hp, SqT K H s9 [nv 1, nv 0])
    (p10 : ∀ H : Hp, SqT K H s10 [nv 2, nv 0])
    (p11 : ∀ H : Hp, SqT K H s11 [nv 2, nv 0])
    (p12 : ∀ H : Hp, SqT K H s12 [nv 3, nv 1])
    (p13 : ∀ H : Hp, SqT K H s13 [nv 2, nv 1])
    (p14 : ∀ H : Hp, SqT K H s14 [nv 2, nv 1])
    (p15 : ∀ H : Hp, SqT K H s15 [nv 1, nv 1])
    (p16 : ∀ H : Hp, SqT K H s16 [nv 1, nv 0])
    : ShIn K := by
  refine ⟨aS, fun i => ([s0, s1, s2, s3, s4, s5, s6, s7, s8, s9, s10, s11, s12, s13, s14, s15, s16] : List Addr).getD i 0, m, fun H => tup_of l (by show 17 ≤ 2 ^ 24; decide) rfl H, fun i hi => ?_⟩
  match i, hi with
  | 0, _ => exact p0
  | 1, _ => exact p1
  | 2, _ => exact p2
  | 3, _ => exact p3
  | 4, _ => exact p4
  | 5, _ => exact p5
  | 6, _ => exact p6
  | 7, _ => exact p7
  | 8, _ => exact p8
  | 9, _ => exact p9
  | 10, _ => exact p10
  | 11, _ => exact p11
  | 12, _ => exact p12
  | 13, _ => exact p13
  | 14, _ => exact p14
  | 15, _ => exact p15
  | 16, _ => exact p16
  | i + 17, hi => omega
structure TopIn (K : PySem.W.Frag) : Prop where
  d_is_code : DF K "is_code" (top 2)
  d_rows_above : DF K "rows_above" (top 3)
  d_document_rows : DF K "document_rows" (top 4)
  d_document_bytes : DF K "document_bytes" (top 5)
  d_node_bytes : DF K "node_bytes" (top 6)
  d_place_of : DF K "place_of" (top 7)
  d_cut : DF K "cut" (top 8)
  d_is_missing : DF K "is_missing" (top 15)
  d_is_rising : DF K "is_rising" (top 16)
  d_is_unfit : DF K "is_unfit" (top 17)
  d_plus : DF K "plus" (top 22)
  d_inverse : DF K "inverse" (top 21)
  d_times : DF K "times" (top 23)
  d_value_at : DF K "value_at" (top 25)
  d_divided_differences : DF K "divided_differences" (top 26)
  d_with_root : DF K "with_root" (top 27)
  d_rows_through : DF K "rows_through" (top 28)
  d_square_of : DF K "square_of" (top 30)
  d_rows_of_node : DF K "rows_of_node" (top 31)
  d_lower_left : DF K "lower_left" (top 32)
  d_likely_document : DF K "likely_document" (top 33)
  d_nodes_apart : DF K "nodes_apart" (top 34)
  d_told_document : DF K "told_document" (top 35)
  d_part_for : DF K "part_for" (top 36)
  d_made_again : DF K "made_again" (top 37)
  d_are_agreeing : DF K "are_agreeing" (top 38)
  d_alone_at : DF K "alone_at" (top 39)
  d_changed_rows : DF K "changed_rows" (top 40)
  d_wrong_nodes : DF K "wrong_nodes" (top 41)
  d_judge : DF K "judge" (top 43)
  d_store : DF K "store" (top 44)
  d_tell : DF K "tell" (top 45)
  d_part : DF K "part" (top 46)
  d_again : DF K "again" (top 47)
  d_agree : DF K "agree" (top 48)
  d_change : DF K "change" (top 49)
  d_wrong : DF K "wrong" (top 50)
  d_nodes_left : DF K "nodes_left" (top 53)
  d_has_lost : DF K "has_lost" (top 54)
  d_rows_of_nodes : DF K "rows_of_nodes" (top 55)
  d_state : DF K "state" (top 57)
  d_node_rows : DF K "node_rows" (top 58)
  d_lose : DF K "lose" (top 59)
  d_spoil : DF K "spoil" (top 60)
  d_read : DF K "read" (top 63)
  d_look : DF K "look" (top 64)
  d_mend : DF K "mend" (top 61)
  d_edit : DF K "edit" (top 62)
  d_build : DF K "build" (top 56)
  d_call_at : DF K "call_at" (top 68)
  d_code_from : DF K "code_from" (top 70)
  d_answer_of_code : DF K "answer_of_code" (top 71)
  d_answer_of_cluster : DF K "answer_of_cluster" (top 72)
  d_answer_to : DF K "answer_to" (top 73)
  d_answers : DF K "answers" (top 74)
  k_Code : ∃ C, KF K "Code" "Code.__init__" (inClass (top 1) 0) C ∧ NA K C "k" ∧ NA K C "d" ∧ NA K C "n" ∧ NA K C "width"
  k_Cluster : ∃ C, KF K "Cluster" "Cluster.__init__" (inClass (top 52) 0) C ∧ NA K C "code" ∧ NA K C "held"
  k_Call : ∃ C, KF K "Call" "Call.__init__" (inClass (top 67) 0) C ∧ NA K C "number" ∧ NA K C "whole" ∧ NA K C "lists" ∧ NA K C "end"
  c_NO_SUCH : CIn K "NO_SUCH" (-1)
  c_NOT_BUILT : CIn K "NOT_BUILT" (-3)
  c_NOT_LET : CIn K "NOT_LET" (-4)
  c_UNFIT : CIn K "UNFIT" (-5)
  c_APART : CIn K "APART" (-9)
  n_len : NIn K "len"
  n_range : NIn K "range"
  n_zip : NIn K "zip"
  n_min : NIn K "min"
  n_max : NIn K "max"
  n_any : NIn K "any"
  n_all : NIn K "all"
  n_list : NIn K "list"
  n_reversed : NIn K "reversed"
  n_enumerate : NIn K "enumerate"
  t_POWERS : TabIn K "POWERS" (nvs POW)
  t_EXPONENTS : TabIn K "EXPONENTS" (nvs EXP)
  t_SHAPES : ShIn K
theorem final {P : Program} {w : World} {K : PySem.W.Frag} {h : Heap} {mg : Str → Option Value} {fa : Addr} (X : K.In h) (G : h.Ns mainGlobals mg) (hfa : mg "answers" = some (.ref fa)) (Z : TopIn K) :
    ∃ fd : FuncData, (∀ (s : Shared) (us : List Value), us.length = (["calls"] : List Str).length → BindsTo s fd ⟨us, []⟩ ((["calls"] : List Str).zip us)) ∧ ∀ base : Heap, K.In base → base.Ns mainGlobals mg → FnOk P w K mg base CX0 10 fa fd ["calls"] (sp_answers K) := by
  have B : Bi mg := ⟨PySem.W.mg_none_of X G Z.n_len, PySem.W.mg_none_of X G Z.n_range, PySem.W.mg_none_of X G Z.n_zip, PySem.W.mg_none_of X G Z.n_min, PySem.W.mg_none_of X G Z.n_max, PySem.W.mg_none_of X G Z.n_any, PySem.W.mg_none_of X G Z.n_all, PySem.W.mg_none_of X G Z.n_list, PySem.W.mg_none_of X G Z.n_reversed, PySem.W.mg_none_of X G Z.n_enumerate⟩
  have cn : Cn mg := ⟨let ⟨t, e⟩ := Z.c_NO_SUCH; ⟨t, PySem.W.mg_of X G e⟩, let ⟨t, e⟩ := Z.c_NOT_BUILT; ⟨t, PySem.W.mg_of X G e⟩, let ⟨t, e⟩ := Z.c_NOT_LET; ⟨t, PySem.W.mg_of X G e⟩, let ⟨t, e⟩ := Z.c_UNFIT; ⟨t, PySem.W.mg_of X G e⟩, let ⟨t, e⟩ := Z.c_APART; ⟨t, PySem.W.mg_of X G e⟩⟩
  obtain ⟨aP, mP, sP⟩ := Z.t_POWERS
  obtain ⟨aE, mE, sE⟩ := Z.t_EXPONENTS
  have t : Tb K mg aP aE := ⟨PySem.W.mg_of X G mP, PySem.W.mg_of X G mE, sP, sE⟩
  obtain ⟨aS, as, mS, sS, sI⟩ := Z.t_SHAPES
  have S : Sh K mg aS as := ⟨PySem.W.mg_of X G mS, sS, sI⟩
  obtain ⟨C, kC, c1, c2, c3, c4⟩ := Z.k_Code
  obtain ⟨CL, kL, l1, l2⟩ := Z.k_Cluster
  obtain ⟨CA, kA, a1, a2, a3, a4⟩ := Z.k_Call
  have T : Cc K C := ⟨kC.cls, c1, c2, c3, c4⟩
  have L : Cl K CL := ⟨kL.cls, l1, l2⟩
  have Y : Ca K CA := ⟨kA.cls, a1, a2, a3, a4⟩
  obtain ⟨fA, fdA, aA, FA⟩ := Z.d_answers
  have key : ∀ base : Heap, FnOk P w K mg base CX0 10 fA fdA ["calls"] (sp_answers K) := by
    intro base
    have k_Code : Kd P w K mg base "Code" C ["self", "k", "d", "n", "width"] (sp_Code C) := by
      obtain ⟨f, fd, M, F⟩ := kC.ex
      exact ⟨f, fd, M, ok_Code F T, PySem.W.mg_of X G kC.ns, F.binds (ps := ["self", "k", "d", "n", "width"]) fun _ _ _ _ _ _ us hl => by obtain ⟨_, _, _, _, _, rfl⟩ := len5 hl; rfl⟩
    have k_Cluster : Kd P w K mg base "Cluster" CL ["self", "code", "held"] (sp_Cluster CL) := by
      obtain ⟨f, fd, M, F⟩ := kL.ex
      exact ⟨f, fd, M, ok_Cluster F L, PySem.W.mg_of X G kL.ns, F.binds (ps := ["self", "code", "held"]) fun _ _ _ _ _ _ us hl => by obtain ⟨_, _, _, rfl⟩ := len3 hl; rfl⟩
    have k_Call : Kd P w K mg base "Call" CA ["self", "number", "whole", "lists", "end"] (sp_Call CA) := by
      obtain ⟨f, fd, M, F⟩ := kA.ex
      exact ⟨f, fd, M, ok_Call F Y, PySem.W.mg_of X G kA.ns, F.binds (ps := ["self", "number", "whole", "lists", "end"]) fun _ _ _ _ _ _ us hl => by obtain ⟨_, _, _, _, _, rfl⟩ := len5 hl; rfl⟩
    have g_is_code : Gd P w K mg base 1 "is_code" ["code"] (sp_is_code C) := by
      obtain ⟨f, fd, a, F⟩ := Z.d_is_code
      exact ⟨f, fd, ok_is_code F T, PySem.W.mg_of X G a, F.kp, F.binds (ps := ["code"]) fun _ _ _ _ _ _ us hl => by obtain ⟨_, rfl⟩ := len1 hl; rfl⟩
    have g_rows_above : Gd P w K mg base 1 "rows_above" ["code", "i"] (sp_rows_above C) := by
      obtain ⟨f, fd, a, F⟩ := Z.d_rows_above
      exact ⟨f, fd, ok_rows_above F T, PySem.W.mg_of X G a, F.kp, F.binds (ps := ["code", "i"]) fun _ _ _ _ _ _ us hl => by obtain ⟨_, _, rfl⟩ := len2 hl; rfl⟩
    have g_document_rows : Gd P w K mg base 2 "document_rows" ["code"] (sp_document_rows C) := by
      obtain ⟨f, fd, a, F⟩ := Z.d_document_rows
      exact ⟨f, fd, ok_document_rows F T g_rows_above, PySem.W.mg_of X G a, F.kp, F.binds (ps := ["code"]) fun _ _ _ _ _ _ us hl => by obtain ⟨_, rfl⟩ := len1 hl; rfl⟩
    have g_document_bytes : Gd P w K mg base 3 "document_bytes" ["code"] (sp_document_bytes C) := by
      obtain ⟨f, fd, a, F⟩ := Z.d_document_bytes
      exact ⟨f, fd, ok_document_bytes F T g_document_rows, PySem.W.mg_of X G a, F.kp, F.binds (ps := ["code"]) fun _ _ _ _ _ _ us hl => by obtain ⟨_, rfl⟩ := len1 hl; rfl⟩
    have g_node_bytes : Gd P w K mg base 1 "node_bytes" ["code"] (sp_node_bytes C) := by
      obtain ⟨f, fd, a, F⟩ := Z.d_node_bytes
      exact ⟨f, fd, ok_node_bytes F T, PySem.W.mg_of X G a, F.kp, F.binds (ps := ["code"]) fun _ _ _ _ _ _ us hl => by obtain ⟨_, rfl⟩ := len1 hl; rfl⟩
    have g_place_of : Gd P w K mg base 1 "place_of" ["node"] sp_place_of := by
      obtain ⟨f, fd, a, F⟩ := Z.d_place_of
      exact ⟨f, fd, ok_place_of F , PySem.W.mg_of X G a, F.kp, F.binds (ps := ["node"]) fun _ _ _ _ _ _ us hl => by obtain ⟨_, rfl⟩ := len1 hl; rfl⟩
    have g_cut : Gd P w K mg base 1 "cut" ["row", "length"] sp_cut := by
      obtain ⟨f, fd, a, F⟩ := Z.d_cut
      exact ⟨f, fd, ok_cut F B, PySem.W.mg_of X G a, F.kp, F.binds (ps := ["row", "length"]) fun _ _ _ _ _ _ us hl => by obtain ⟨_, _, rfl⟩ := len2 hl; rfl⟩
    have g_is_missing : Gd P w K mg base 2 "is_missing" ["code", "nodes"] (sp_is_missing C) := by
      obtain ⟨f, fd, a, F⟩ := Z.d_is_missing
      exact ⟨f, fd, ok_is_missing F B T g_is_code, PySem.W.mg_of X G a, F.kp, F.binds (ps := ["code", "nodes"]) fun _ _ _ _ _ _ us hl => by obtain ⟨_, _, rfl⟩ := len2 hl; rfl⟩
    have g_is_rising : Gd P w K mg base 1 "is_rising" ["nodes"] sp_is_rising := by
      obtain ⟨f, fd, a, F⟩ := Z.d_is_rising
      exact ⟨f, fd, ok_is_rising F B, PySem.W.mg_of X G a, F.kp, F.binds (ps := ["nodes"]) fun _ _ _ _ _ _ us hl => by obtain ⟨_, rfl⟩ := len1 hl; rfl⟩
    have g_is_unfit : Gd P w K mg base 2 "is_unfit" ["nodes", "fewest", "row", "bytes_each"] sp_is_unfit := by
      obtain ⟨f, fd, a, F⟩ := Z.d_is_unfit
      exact ⟨f, fd, ok_is_unfit F B g_is_rising, PySem.W.mg_of X G a, F.kp, F.binds (ps := ["nodes", "fewest", "row", "bytes_each"]) fun _ _ _ _ _ _ us hl => by obtain ⟨_, _, _, _, rfl⟩ := len4 hl; rfl⟩
    have g_plus : Gd P w K mg base 1 "plus" ["row", "other"] sp_plus := by
      obtain ⟨f, fd, a, F⟩ := Z.d_plus
      exact ⟨f, fd, ok_plus F B, PySem.W.mg_of X G a, F.kp, F.binds (ps := ["row", "other"]) fun _ _ _ _ _ _ us hl => by obtain ⟨_, _, rfl⟩ := len2 hl; rfl⟩
    have g_inverse : Gd P w K mg base 1 "inverse" ["byte"] sp_inverse := by
      obtain ⟨f, fd, a, F⟩ := Z.d_inverse
      exact ⟨f, fd, ok_inverse F t, PySem.W.mg_of X G a, F.kp, F.binds (ps := ["byte"]) fun _ _ _ _ _ _ us hl => by obtain ⟨_, rfl⟩ := len1 hl; rfl⟩
    have g_times : Gd P w K mg base 1 "times" ["factor", "row"] sp_times := by
      obtain ⟨f, fd, a, F⟩ := Z.d_times
      exact ⟨f, fd, ok_times F B t, PySem.W.mg_of X G a, F.kp, F.binds (ps := ["factor", "row"]) fun _ _ _ _ _ _ us hl => by obtain ⟨_, _, rfl⟩ := len2 hl; rfl⟩
    have g_value_at : Gd P w K mg base 2 "value_at" ["place", "rows"] sp_value_at := by
      obtain ⟨f, fd, a, F⟩ := Z.d_value_at
      exact ⟨f, fd, ok_value_at F B g_plus g_times, PySem.W.mg_of X G a, F.kp, F.binds (ps := ["place", "rows"]) fun _ _ _ _ _ _ us hl => by obtain ⟨_, _, rfl⟩ := len2 hl; rfl⟩
    have g_divided_differences : Gd P w K mg base 2 "divided_differences" ["places", "values"] sp_divided_differences := by
      obtain ⟨f, fd, a, F⟩ := Z.d_divided_differences
      exact ⟨f, fd, ok_divided_differences F B g_plus g_times g_inverse, PySem.W.mg_of X G a, F.kp, F.binds (ps := ["places", "values"]) fun _ _ _ _ _ _ us hl => by obtain ⟨_, _, rfl⟩ := len2 hl; rfl⟩
    have g_with_root : Gd P w K mg base 2 "with_root" ["place", "rows"] sp_with_root := by
      obtain ⟨f, fd, a, F⟩ := Z.d_with_root
      exact ⟨f, fd, ok_with_root F B g_plus g_times, PySem.W.mg_of X G a, F.kp, F.binds (ps := ["place", "rows"]) fun _ _ _ _ _ _ us hl => by obtain ⟨_, _, rfl⟩ := len2 hl; rfl⟩
    have g_rows_through : Gd P w K mg base 3 "rows_through" ["places", "values"] sp_rows_through := by
      obtain ⟨f, fd, a, F⟩ := Z.d_rows_through
      exact ⟨f, fd, ok_rows_through F B g_plus g_with_root g_divided_differences, PySem.W.mg_of X G a, F.kp, F.binds (ps := ["places", "values"]) fun _ _ _ _ _ _ us hl => by obtain ⟨_, _, rfl⟩ := len2 hl; rfl⟩
    have g_square_of : Gd P w K mg base 2 "square_of" ["code", "document"] (sp_square_of C) := by
      obtain ⟨f, fd, a, F⟩ := Z.d_square_of
      exact ⟨f, fd, ok_square_of F B T g_cut g_rows_above, PySem.W.mg_of X G a, F.kp, F.binds (ps := ["code", "document"]) fun _ _ _ _ _ _ us hl => by obtain ⟨_, _, rfl⟩ := len2 hl; rfl⟩
    have g_rows_of_node : Gd P w K mg base 3 "rows_of_node" ["square", "node"] sp_rows_of_node := by
      obtain ⟨f, fd, a, F⟩ := Z.d_rows_of_node
      exact ⟨f, fd, ok_rows_of_node F g_place_of g_value_at, PySem.W.mg_of X G a, F.kp, F.binds (ps := ["square", "node"]) fun _ _ _ _ _ _ us hl => by obtain ⟨_, _, rfl⟩ := len2 hl; rfl⟩
    have g_lower_left : Gd P w K mg base 2 "lower_left" ["code", "right"] (sp_lower_left C) := by
      obtain ⟨f, fd, a, F⟩ := Z.d_lower_left
      exact ⟨f, fd, ok_lower_left F B T g_cut, PySem.W.mg_of X G a, F.kp, F.binds (ps := ["code", "right"]) fun _ _ _ _ _ _ us hl => by obtain ⟨_, _, rfl⟩ := len2 hl; rfl⟩
    have g_likely_document : Gd P w K mg base 4 "likely_document" ["code", "nodes", "held"] (sp_likely_document C) := by
      obtain ⟨f, fd, a, F⟩ := Z.d_likely_document
      exact ⟨f, fd, ok_likely_document F B T g_place_of g_value_at g_rows_through g_lower_left g_plus, PySem.W.mg_of X G a, F.kp, F.binds (ps := ["code", "nodes", "held"]) fun _ _ _ _ _ _ us hl => by obtain ⟨_, _, _, rfl⟩ := len3 hl; rfl⟩
    have g_nodes_apart : Gd P w K mg base 4 "nodes_apart" ["code", "nodes", "held", "document"] (sp_nodes_apart C) := by
      obtain ⟨f, fd, a, F⟩ := Z.d_nodes_apart
      exact ⟨f, fd, ok_nodes_apart F B T g_square_of g_rows_of_node, PySem.W.mg_of X G a, F.kp, F.binds (ps := ["code", "nodes", "held", "document"]) fun _ _ _ _ _ _ us hl => by obtain ⟨_, _, _, _, rfl⟩ := len4 hl; rfl⟩
    have g_told_document : Gd P w K mg base 5 "told_document" ["code", "nodes", "held"] (sp_told_document C) := by
      obtain ⟨f, fd, a, F⟩ := Z.d_told_document
      exact ⟨f, fd, ok_told_document F B T g_likely_document g_nodes_apart, PySem.W.mg_of X G a, F.kp, F.binds (ps := ["code", "nodes", "held"]) fun _ _ _ _ _ _ us hl => by obtain ⟨_, _, _, rfl⟩ := len3 hl; rfl⟩
    have g_part_for : Gd P w K mg base 3 "part_for" ["code", "node", "rows"] (sp_part_for C) := by
      obtain ⟨f, fd, a, F⟩ := Z.d_part_for
      exact ⟨f, fd, ok_part_for F T g_place_of g_value_at g_cut, PySem.W.mg_of X G a, F.kp, F.binds (ps := ["code", "node", "rows"]) fun _ _ _ _ _ _ us hl => by obtain ⟨_, _, _, rfl⟩ := len3 hl; rfl⟩
    have g_made_again : Gd P w K mg base 4 "made_again" ["code", "nodes", "parts"] (sp_made_again C) := by
      obtain ⟨f, fd, a, F⟩ := Z.d_made_again
      exact ⟨f, fd, ok_made_again F B T g_place_of g_value_at g_rows_through, PySem.W.mg_of X G a, F.kp, F.binds (ps := ["code", "nodes", "parts"]) fun _ _ _ _ _ _ us hl => by obtain ⟨_, _, _, rfl⟩ := len3 hl; rfl⟩
    have g_are_agreeing : Gd P w K mg base 4 "are_agreeing" ["code", "i", "j", "rows_i", "rows_j"] (sp_are_agreeing C) := by
      obtain ⟨f, fd, a, F⟩ := Z.d_are_agreeing
      exact ⟨f, fd, ok_are_agreeing F g_part_for, PySem.W.mg_of X G a, F.kp, F.binds (ps := ["code", "i", "j", "rows_i", "rows_j"]) fun _ _ _ _ _ _ us hl => by obtain ⟨_, _, _, _, _, rfl⟩ := len5 hl; rfl⟩
    have g_alone_at : Gd P w K mg base 1 "alone_at" ["at", "row", "count"] sp_alone_at := by
      obtain ⟨f, fd, a, F⟩ := Z.d_alone_at
      exact ⟨f, fd, ok_alone_at F B, PySem.W.mg_of X G a, F.kp, F.binds (ps := ["at", "row", "count"]) fun _ _ _ _ _ _ us hl => by obtain ⟨_, _, _, rfl⟩ := len3 hl; rfl⟩
    have g_changed_rows : Gd P w K mg base 4 "changed_rows" ["code", "node", "rows", "i", "difference"] (sp_changed_rows C) := by
      obtain ⟨f, fd, a, F⟩ := Z.d_changed_rows
      exact ⟨f, fd, ok_changed_rows F g_alone_at g_document_rows g_plus g_square_of g_rows_of_node, PySem.W.mg_of X G a, F.kp, F.binds (ps := ["code", "node", "rows", "i", "difference"]) fun _ _ _ _ _ _ us hl => by obtain ⟨_, _, _, _, _, rfl⟩ := len5 hl; rfl⟩
    have g_cutN : Gd P w K mg base 1 "cut" ["row", "length"] sp_cutN := by
      obtain ⟨f, fd, a, F⟩ := Z.d_cut
      exact ⟨f, fd, ok_cutN F B, PySem.W.mg_of X G a, F.kp, F.binds (ps := ["row", "length"]) fun _ _ _ _ _ _ us hl => by obtain ⟨_, _, rfl⟩ := len2 hl; rfl⟩
    have g_wrong_nodes : Gd P w K mg base 5 "wrong_nodes" ["code", "nodes", "held"] (sp_wrong_nodes C) := by
      obtain ⟨f, fd, a, F⟩ := Z.d_wrong_nodes
      exact ⟨f, fd, ok_wrong_nodes F B T g_cutN g_likely_document g_nodes_apart, PySem.W.mg_of X G a, F.kp, F.binds (ps := ["code", "nodes", "held"]) fun _ _ _ _ _ _ us hl => by obtain ⟨_, _, _, rfl⟩ := len3 hl; rfl⟩
    have g_judge : Gd P w K mg base 3 "judge" ["code"] (sp_judge C) := by
      obtain ⟨f, fd, a, F⟩ := Z.d_judge
      exact ⟨f, fd, ok_judge F cn g_is_code g_document_rows g_node_bytes, PySem.W.mg_of X G a, F.kp, F.binds (ps := ["code"]) fun _ _ _ _ _ _ us hl => by obtain ⟨_, rfl⟩ := len1 hl; rfl⟩
    have g_store : Gd P w K mg base 4 "store" ["code", "node", "document"] (sp_store C) := by
      obtain ⟨f, fd, a, F⟩ := Z.d_store
      exact ⟨f, fd, ok_store F cn B T g_is_missing g_document_bytes g_rows_of_node g_square_of, PySem.W.mg_of X G a, F.kp, F.binds (ps := ["code", "node", "document"]) fun _ _ _ _ _ _ us hl => by obtain ⟨_, _, _, rfl⟩ := len3 hl; rfl⟩
    have g_tell : Gd P w K mg base 6 "tell" ["code", "nodes", "rows"] (sp_tell C) := by
      obtain ⟨f, fd, a, F⟩ := Z.d_tell
      exact ⟨f, fd, ok_tell F cn B T g_is_missing g_is_unfit g_node_bytes g_cut g_told_document g_document_rows, PySem.W.mg_of X G a, F.kp, F.binds (ps := ["code", "nodes", "rows"]) fun _ _ _ _ _ _ us hl => by obtain ⟨_, _, _, rfl⟩ := len3 hl; rfl⟩
    have g_part : Gd P w K mg base 4 "part" ["code", "node", "rows"] (sp_part C) := by
      obtain ⟨f, fd, a, F⟩ := Z.d_part
      exact ⟨f, fd, ok_part F cn B T g_is_missing g_node_bytes g_part_for, PySem.W.mg_of X G a, F.kp, F.binds (ps := ["code", "node", "rows"]) fun _ _ _ _ _ _ us hl => by obtain ⟨_, _, _, rfl⟩ := len3 hl; rfl⟩
    have g_again : Gd P w K mg base 5 "again" ["code", "node", "nodes", "parts"] (sp_again C) := by
      obtain ⟨f, fd, a, F⟩ := Z.d_again
      exact ⟨f, fd, ok_again F cn B T g_is_missing g_is_unfit g_cut g_made_again, PySem.W.mg_of X G a, F.kp, F.binds (ps := ["code", "node", "nodes", "parts"]) fun _ _ _ _ _ _ us hl => by obtain ⟨_, _, _, _, rfl⟩ := len4 hl; rfl⟩
    have g_agree : Gd P w K mg base 5 "agree" ["code", "i", "j", "rows_i", "rows_j"] (sp_agree C) := by
      obtain ⟨f, fd, a, F⟩ := Z.d_agree
      exact ⟨f, fd, ok_agree F cn B T g_is_missing g_node_bytes g_are_agreeing, PySem.W.mg_of X G a, F.kp, F.binds (ps := ["code", "i", "j", "rows_i", "rows_j"]) fun _ _ _ _ _ _ us hl => by obtain ⟨_, _, _, _, _, rfl⟩ := len5 hl; rfl⟩
    have g_change : Gd P w K mg base 5 "change" ["code", "node", "i", "rows", "difference"] (sp_change C) := by
      obtain ⟨f, fd, a, F⟩ := Z.d_change
      exact ⟨f, fd, ok_change F cn B T g_is_missing g_node_bytes g_document_rows g_changed_rows, PySem.W.mg_of X G a, F.kp, F.binds (ps := ["code", "node", "i", "rows", "difference"]) fun _ _ _ _ _ _ us hl => by obtain ⟨_, _, _, _, _, rfl⟩ := len5 hl; rfl⟩
    have g_wrong : Gd P w K mg base 6 "wrong" ["code", "nodes", "rows"] (sp_wrong C) := by
      obtain ⟨f, fd, a, F⟩ := Z.d_wrong
      exact ⟨f, fd, ok_wrong F cn B T g_is_missing g_is_unfit g_node_bytes g_cut g_told_document g_wrong_nodes, PySem.W.mg_of X G a, F.kp, F.binds (ps := ["code", "nodes", "rows"]) fun _ _ _ _ _ _ us hl => by obtain ⟨_, _, _, rfl⟩ := len3 hl; rfl⟩
    have g_nodes_left : Gd P w K mg base 1 "nodes_left" ["cluster"] (sp_nodes_left C CL) := by
      obtain ⟨f, fd, a, F⟩ := Z.d_nodes_left
      exact ⟨f, fd, ok_nodes_left F B T L, PySem.W.mg_of X G a, F.kp, F.binds (ps := ["cluster"]) fun _ _ _ _ _ _ us hl => by obtain ⟨_, rfl⟩ := len1 hl; rfl⟩
    have g_has_lost : Gd P w K mg base 1 "has_lost" ["cluster", "nodes"] (sp_has_lost C CL) := by
      obtain ⟨f, fd, a, F⟩ := Z.d_has_lost
      exact ⟨f, fd, ok_has_lost F B L, PySem.W.mg_of X G a, F.kp, F.binds (ps := ["cluster", "nodes"]) fun _ _ _ _ _ _ us hl => by obtain ⟨_, _, rfl⟩ := len2 hl; rfl⟩
    have g_rows_of_nodes : Gd P w K mg base 1 "rows_of_nodes" ["cluster", "nodes"] (sp_rows_of_nodes C CL) := by
      obtain ⟨f, fd, a, F⟩ := Z.d_rows_of_nodes
      exact ⟨f, fd, ok_rows_of_nodes F B L, PySem.W.mg_of X G a, F.kp, F.binds (ps := ["cluster", "nodes"]) fun _ _ _ _ _ _ us hl => by obtain ⟨_, _, rfl⟩ := len2 hl; rfl⟩
    have g_state : Gd P w K mg base 2 "state" ["cluster"] (sp_state C CL) := by
      obtain ⟨f, fd, a, F⟩ := Z.d_state
      exact ⟨f, fd, ok_state F T L g_nodes_left, PySem.W.mg_of X G a, F.kp, F.binds (ps := ["cluster"]) fun _ _ _ _ _ _ us hl => by obtain ⟨_, rfl⟩ := len1 hl; rfl⟩
    have g_node_rows : Gd P w K mg base 3 "node_rows" ["cluster", "node"] (sp_node_rows C CL) := by
      obtain ⟨f, fd, a, F⟩ := Z.d_node_rows
      exact ⟨f, fd, ok_node_rows F cn L g_is_missing g_has_lost, PySem.W.mg_of X G a, F.kp, F.binds (ps := ["cluster", "node"]) fun _ _ _ _ _ _ us hl => by obtain ⟨_, _, rfl⟩ := len2 hl; rfl⟩
    have g_lose : Gd P w K mg base 3 "lose" ["cluster", "node"] (sp_lose C CL) := by
      obtain ⟨f, fd, a, F⟩ := Z.d_lose
      exact ⟨f, fd, ok_lose F cn L g_is_missing g_has_lost, PySem.W.mg_of X G a, F.kp, F.binds (ps := ["cluster", "node"]) fun _ _ _ _ _ _ us hl => by obtain ⟨_, _, rfl⟩ := len2 hl; rfl⟩
    have g_spoil : Gd P w K mg base 3 "spoil" ["cluster", "node", "j", "difference"] (sp_spoil C CL) := by
      obtain ⟨f, fd, a, F⟩ := Z.d_spoil
      exact ⟨f, fd, ok_spoil F cn B T L g_is_missing g_has_lost g_plus g_alone_at, PySem.W.mg_of X G a, F.kp, F.binds (ps := ["cluster", "node", "j", "difference"]) fun _ _ _ _ _ _ us hl => by obtain ⟨_, _, _, _, rfl⟩ := len4 hl; rfl⟩
    have g_read : Gd P w K mg base 7 "read" ["cluster", "nodes"] (sp_read C CL) := by
      obtain ⟨f, fd, a, F⟩ := Z.d_read
      exact ⟨f, fd, ok_read F cn L g_is_missing g_has_lost g_tell g_rows_of_nodes, PySem.W.mg_of X G a, F.kp, F.binds (ps := ["cluster", "nodes"]) fun _ _ _ _ _ _ us hl => by obtain ⟨_, _, rfl⟩ := len2 hl; rfl⟩
    have g_look : Gd P w K mg base 7 "look" ["cluster"] (sp_look C CL) := by
      obtain ⟨f, fd, a, F⟩ := Z.d_look
      exact ⟨f, fd, ok_look F L g_nodes_left g_wrong g_rows_of_nodes, PySem.W.mg_of X G a, F.kp, F.binds (ps := ["cluster"]) fun _ _ _ _ _ _ us hl => by obtain ⟨_, rfl⟩ := len1 hl; rfl⟩
    have g_mend : Gd P w K mg base 6 "mend" ["cluster", "node", "nodes"] (sp_mend C CL) := by
      obtain ⟨f, fd, a, F⟩ := Z.d_mend
      exact ⟨f, fd, ok_mend F cn L g_is_missing g_has_lost g_part_for g_again, PySem.W.mg_of X G a, F.kp, F.binds (ps := ["cluster", "node", "nodes"]) fun _ _ _ _ _ _ us hl => by obtain ⟨_, _, _, rfl⟩ := len3 hl; rfl⟩
    have g_edit : Gd P w K mg base 5 "edit" ["cluster", "i", "difference"] (sp_edit C CL) := by
      obtain ⟨f, fd, a, F⟩ := Z.d_edit
      exact ⟨f, fd, ok_edit F cn B T L g_document_rows g_nodes_left g_changed_rows, PySem.W.mg_of X G a, F.kp, F.binds (ps := ["cluster", "i", "difference"]) fun _ _ _ _ _ _ us hl => by obtain ⟨_, _, _, rfl⟩ := len3 hl; rfl⟩
    have g_build : Gd P w K mg base 4 "build" ["clusters", "which", "code", "document"] (sp_build C CL) := by
      obtain ⟨f, fd, a, F⟩ := Z.d_build
      exact ⟨f, fd, ok_build F cn B T L k_Cluster g_is_code g_document_bytes g_rows_of_node g_square_of, PySem.W.mg_of X G a, F.kp, F.binds (ps := ["clusters", "which", "code", "document"]) fun _ _ _ _ _ _ us hl => by obtain ⟨_, _, _, _, rfl⟩ := len4 hl; rfl⟩
    have g_call_at : Gd P w K mg base 3 "call_at" ["calls", "start"] (sp_call_at K CA) := by
      obtain ⟨f, fd, a, F⟩ := Z.d_call_at
      exact ⟨f, fd, ok_call_at F B S k_Call, PySem.W.mg_of X G a, F.kp, F.binds (ps := ["calls", "start"]) fun _ _ _ _ _ _ us hl => by obtain ⟨_, _, rfl⟩ := len2 hl; rfl⟩
    have g_code_from : Gd P w K mg base 3 "code_from" ["whole", "start"] (sp_code_from C) := by
      obtain ⟨f, fd, a, F⟩ := Z.d_code_from
      exact ⟨f, fd, ok_code_from F k_Code, PySem.W.mg_of X G a, F.kp, F.binds (ps := ["whole", "start"]) fun _ _ _ _ _ _ us hl => by obtain ⟨_, _, rfl⟩ := len2 hl; rfl⟩
    have g_answer_of_code : Gd P w K mg base 7 "answer_of_code" ["call"] (sp_answer_of_code CA) := by
      obtain ⟨f, fd, a, F⟩ := Z.d_answer_of_code
      exact ⟨f, fd, ok_answer_of_code F Y g_code_from g_judge g_store g_tell g_part g_again g_agree g_change g_wrong, PySem.W.mg_of X G a, F.kp, F.binds (ps := ["call"]) fun _ _ _ _ _ _ us hl => by obtain ⟨_, rfl⟩ := len1 hl; rfl⟩
    have g_answer_of_cluster : Gd P w K mg base 8 "answer_of_cluster" ["cluster", "call"] (sp_answer_of_cluster C CL CA) := by
      obtain ⟨f, fd, a, F⟩ := Z.d_answer_of_cluster
      exact ⟨f, fd, ok_answer_of_cluster F Y g_state g_node_rows g_lose g_spoil g_mend g_edit g_read g_look, PySem.W.mg_of X G a, F.kp, F.binds (ps := ["cluster", "call"]) fun _ _ _ _ _ _ us hl => by obtain ⟨_, _, rfl⟩ := len2 hl; rfl⟩
    have g_answer_to : Gd P w K mg base 9 "answer_to" ["clusters", "call"] (sp_answer_to C CL CA) := by
      obtain ⟨f, fd, a, F⟩ := Z.d_answer_to
      exact ⟨f, fd, ok_answer_to F cn B Y g_code_from g_answer_of_code g_build g_answer_of_cluster, PySem.W.mg_of X G a, F.kp, F.binds (ps := ["clusters", "call"]) fun _ _ _ _ _ _ us hl => by obtain ⟨_, _, rfl⟩ := len2 hl; rfl⟩
    exact ok_answers FA B Y g_call_at g_answer_to
  have hf := hfa.symm.trans (PySem.W.mg_of X G aA)
  cases hf
  refine ⟨fdA, ?_, fun base _ _ => key base⟩
  obtain ⟨oc, od, kV, doc, pm, an, cdv, ct, osl, rfl, _, _⟩ := FA.ex
  exact fun s us hu => match us, hu with | [_], _ => .of_eq rfl
end Sn
end
namespace PySem.W.Fast
def tw12843179199333342013 : Unit := ()
def tw5577712250835516188 : Unit := ()
def tw4940547051815311955 : Unit := ()
def tw10028782394515786128 : Unit := ()
def tw9421023465157415419 : Unit := ()
def tw5718309726507094529 : Unit := ()
def tw8161268182410658237 : Unit := ()
def tw6622862719222869333 : Unit := ()
def tw4630016214633419116 : Unit := ()
def tw17057291592961090674 : Unit := ()
def tw11369061504114761199 : Unit := ()
def tw15065171805916559059 : Unit := ()
def tw7558250451060721102 : Unit := ()
def tw14338915000021048812 : Unit := ()
def tw11367114610581939477 : Unit := ()
def tw12972916123435714222 : Unit := ()
def tw13848965508277212757 : Unit := ()
def tw8764832120197750463 : Unit := ()
def tw775156464995255139 : Unit := ()
def tw8018117956225094245 : Unit := ()
def tw6735468021279840237 : Unit := ()
def tw338732392536816958 : Unit := ()
def tw11645499038124582865 : Unit := ()
def tw10681039707085695368 : Unit := ()
def tw7912416956951734303 : Unit := ()
def tw6368822387857004812 : Unit := ()
def tw12702710756389629 : Unit := ()
def tw12793382025259133594 : Unit := ()
def tw12269203496259525446 : Unit := ()
def tw10431994835840642555 : Unit := ()
def tw5688756543876336804 : Unit := ()
def tw13627918846246321829 : Unit := ()
def tw6504748545622641394 : Unit := ()
def tw2427788177863211088 : Unit := ()
def tw10887708503681247772 : Unit := ()
def tw12977210755565021075 : Unit := ()
def tw12841127744987425028 : Unit := ()
def tw4949570479539192728 : Unit := ()
def tw12819400155040276994 : Unit := ()
def tw595983383307144937 : Unit := ()
def tw8261480802603444734 : Unit := ()
def tw9376947148199845054 : Unit := ()
def tw6442548875948984675 : Unit := ()
def tw11697450579720135804 : Unit := ()
def tw5643012414534668594 : Unit := ()
def tw11991504102823162089 : Unit := ()
def tw11021856303606474903 : Unit := ()
def tw8052623970466743142 : Unit := ()
def tw14867126391631828453 : Unit := ()
def tw1764960088557535032 : Unit := ()
def tw17670638009498628863 : Unit := ()
def tw17218673291663076550 : Unit := ()
def tw7887796504123376476 : Unit := ()
def tw17275875414028941132 : Unit := ()
def tw5861614350792969043 : Unit := ()
def tw3578087228380125558 : Unit := ()
def tw12834146809735082485 : Unit := ()
def tw12850810792853999864 : Unit := ()
def tw1996733469100955907 : Unit := ()
def tw11727912605934928722 : Unit := ()
def tw2412616561431141255 : Unit := ()
def tw11313656592024109791 : Unit := ()
def tw11501931140909047484 : Unit := ()
def tw4208076814911085492 : Unit := ()
def tw15150373269568594254 : Unit := ()
def tw11204434368177995010 : Unit := ()
def tw6130533048960508964 : Unit := ()
def tw9337430939812295214 : Unit := ()
def tw7679506731627358766 : Unit := ()
def tw15077677294916044760 : Unit := ()
def tw2793421542849073641 : Unit := ()
def tw2060807206187010668 : Unit := ()
def tw9410806722297182483 : Unit := ()
def tw910331516409635533 : Unit := ()
def tw12384547155536859945 : Unit := ()
def tw17625922822155154339 : Unit := ()
def tw16938366706843497884 : Unit := ()
def tw3713525399741175499 : Unit := ()
def tw8092889166027485637 : Unit := ()
def tw15581111854766019786 : Unit := ()
def tw16232187376503136112 : Unit := ()
def tw18064190548085478842 : Unit := ()
def tw14019140311695497404 : Unit := ()
def tw10667946502303581248 : Unit := ()
def tw2458196839082361104 : Unit := ()
def tw1349082226580060221 : Unit := ()
def tw5801798916224010387 : Unit := ()
def tw18080014139935938818 : Unit := ()
def tw5615117787157459417 : Unit := ()
def tw10584347773515607801 : Unit := ()
def tw9574475299351042964 : Unit := ()
def tw6218089780638244099 : Unit := ()
def tw2264184116813309133 : Unit := ()
def tw9343952754622154708 : Unit := ()
def tw5739244852502017211 : Unit := ()
def tw7749378929272336754 : Unit := ()
def tw16346592923095034400 : Unit := ()
def tw8781580022012803899 : Unit := ()
def tw17734863446733410914 : Unit := ()
def tw3236682524123194484 : Unit := ()
def tw9911831649202499172 : Unit := ()
def tw8120482017586241959 : Unit := ()
def tw13719934066669789741 : Unit := ()
def tw6959921306698033521 : Unit := ()
def tw2178889823016769576 : Unit := ()
def tw5009546673582408375 : Unit := ()
def tw10495571990424497769 : Unit := ()
def tw9679723463431050907 : Unit := ()
def tw17800053307331184115 : Unit := ()
def tw7243551174431362564 : Unit := ()
def tw17937518755210812209 : Unit := ()
def tw13115287730038094457 : Unit := ()
def tw9415377536102501337 : Unit := ()
def tw3918531691992647134 : Unit := ()
def tw9999079713253009396 : Unit := ()
def tw14453440502236671150 : Unit := ()
def tw2722128084423718971 : Unit := ()
def tw987851811047927321 : Unit := ()
def tw8613312539060740194 : Unit := ()
def tw11803375808111220145 : Unit := ()
def tw12624586925339844133 : Unit := ()
def tw12031544570855954992 : Unit := ()
def tw13770624091320587961 : Unit := ()
def tw6051190860970324740 : Unit := ()
def tw17347294638594706229 : Unit := ()
def tw6085238280292301264 : Unit := ()
def tw8612312792174370811 : Unit := ()
def tw15575805959186079867 : Unit := ()
def tw17404491824851524911 : Unit := ()
def tw16879270083161941605 : Unit := ()
def tw12540697256058693949 : Unit := ()
def tw16550449328993397887 : Unit := ()
def tw7486599652445723232 : Unit := ()
def tw12357623034855002700 : Unit := ()
def tw728664272297660448 : Unit := ()
def tw4434193803197889992 : Unit := ()
def tw4885737927402492654 : Unit := ()
def tw2083620266139189537 : Unit := ()
def tw30698119284845285 : Unit := ()
def tw6104050622892602674 : Unit := ()
def tw7479532337393425004 : Unit := ()
def tw2856333023642039496 : Unit := ()
def tw12915655507385557875 : Unit := ()
def tw5897321744296046929 : Unit := ()
def tw14798984814391329003 : Unit := ()
def tw183884141756930620 : Unit := ()
def tw5582227556685236158 : Unit := ()
def tw11097146367403261956 : Unit := ()
def tw9473422206108219450 : Unit := ()
def tw2677655998913356885 : Unit := ()
def tw11772079557472370538 : Unit := ()
def tw8980728961093613867 : Unit := ()
def tw7080773301478038277 : Unit := ()
def tw9358507435154245287 : Unit := ()
def tw13952039733840133454 : Unit := ()
def tw5585435501883042290 : Unit := ()
def tw6369878864782946000 : Unit := ()
def tw11093443630877268449 : Unit := ()
def tw9928693672329943783 : Unit := ()
def tw12487920627541163897 : Unit := ()
def tw13816467351121504222 : Unit := ()
def tw4695901215890591500 : Unit := ()
def tw18432234411118512389 : Unit := ()
def tw2670959417685920077 : Unit := ()
def tw9512251118165069558 : Unit := ()
def tw16469968907762010135 : Unit := ()
def tw17778053465436707352 : Unit := ()
def tw16175973576514058140 : Unit := ()
def tw16305816026592281671 : Unit := ()
def tw13930200253350787518 : Unit := ()
def tw6665657785705281475 : Unit := ()
def tw17841516759273287813 : Unit := ()
def tw1672728410597658569 : Unit := ()
def tw16029629255316083787 : Unit := ()
def tw14414655268770406013 : Unit := ()
def tw10955203482946691465 : Unit := ()
def tw3641117555786075837 : Unit := ()
def tw6849765114173581033 : Unit := ()
def tw2289957833294565393 : Unit := ()
def tw18268413938323420964 : Unit := ()
def tw6937846973145720035 : Unit := ()
def tw8831862314120309038 : Unit := ()
def tw10283697172993450647 : Unit := ()
def tw14502503476315538983 : Unit := ()
def tw9827844774064143207 : Unit := ()
def tw13342642119267601834 : Unit := ()
def tw18203295399814478837 : Unit := ()
def tw10337533990517659769 : Unit := ()
def tw2801560247021623148 : Unit := ()
def tw10050042191571488252 : Unit := ()
def tw686899346369563630 : Unit := ()
def tw15888077832487163164 : Unit := ()
def tw15291079616401758150 : Unit := ()
def tw7447187538725491274 : Unit := ()
def tw3388376864611144043 : Unit := ()
def tw8592512176106065017 : Unit := ()
def tw10213399076347720578 : Unit := ()
def tw7779088675371795377 : Unit := ()
def tw12351319502839539565 : Unit := ()
def tw13137762219355046797 : Unit := ()
def tw8986701939029615759 : Unit := ()
def tw17395105160653085311 : Unit := ()
def tw17158962158765904541 : Unit := ()
def tw16437442848351343401 : Unit := ()
def tw13557707439587251810 : Unit := ()
def tw4593444148453127521 : Unit := ()
def tw18272676986460240518 : Unit := ()
def tw480996851267222965 : Unit := ()
def tw17053132071259332349 : Unit := ()
def tw15983504056551666384 : Unit := ()
def tw5551115116469545657 : Unit := ()
def tw18384151759805851662 : Unit := ()
def tw12067142399362832202 : Unit := ()
def tw16859433509382273364 : Unit := ()
def tw18003883096101096333 : Unit := ()
def tw14284746623616839065 : Unit := ()
def tw3662330586335758832 : Unit := ()
def tw14554643567009165252 : Unit := ()
def tw6766766809929475644 : Unit := ()
def tw9141356809167140466 : Unit := ()
def tw7638476814454111993 : Unit := ()
def tw15750223566480491972 : Unit := ()
def tw10487624458475555862 : Unit := ()
def tw368754001163398576 : Unit := ()
def tw10555151929903814993 : Unit := ()
def tw10428078056744762512 : Unit := ()
def tw8946666459333824645 : Unit := ()
def tw654543205891497900 : Unit := ()
def tw12150071417695764208 : Unit := ()
def tw16286354706367620341 : Unit := ()
def tw12089424189453303905 : Unit := ()
def tw7579034045209231546 : Unit := ()
def tw432982680974299485 : Unit := ()
def tw4524753320630267588 : Unit := ()
def tw7369804769417364499 : Unit := ()
def tw6654228756175806043 : Unit := ()
def tw11485713237904401933 : Unit := ()
def tw10455944629832157495 : Unit := ()
def tw849140589664389277 : Unit := ()
def tw12742914761021948214 : Unit := ()
def tw16692444383318341916 : Unit := ()
def tw14739025916992249821 : Unit := ()
def tw6548119121328040490 : Unit := ()
def tw17951480980770323032 : Unit := ()
def tw8443834324149820270 : Unit := ()
def tw14428907637323620181 : Unit := ()
def tw1772384587567449389 : Unit := ()
def tw11538362114860940783 : Unit := ()
def tw12742931164090524006 : Unit := ()
def tw2485896577362875862 : Unit := ()
def tw6053362081762459252 : Unit := ()
def tw18249898301885059151 : Unit := ()
def tw5827516623603904696 : Unit := ()
def tw12314689305543104138 : Unit := ()
def tw8371103004431044545 : Unit := ()
def tw7413483635284547104 : Unit := ()
def tw6436144416726399886 : Unit := ()
def tw5185531791195228379 : Unit := ()
def tw6522511891694919462 : Unit := ()
def tw14480418578100408217 : Unit := ()
def tw5646005779558621458 : Unit := ()
def tw15692750340218993399 : Unit := ()
def tw11517875874598460931 : Unit := ()
def tw1300085422112540297 : Unit := ()
def tw8081153714426172889 : Unit := ()
def tw13024424414517061974 : Unit := ()
def tw3299031133951823822 : Unit := ()
def tw688655280346540601 : Unit := ()
def tw6638065399095761699 : Unit := ()
def tw17032366086840073233 : Unit := ()
def tw242764880398719971 : Unit := ()
def tw3332513736448745696 : Unit := ()
def tw161801207711781721 : Unit := ()
def tw1366316131100678813 : Unit := ()
def tw17760374113860019934 : Unit := ()
def tw212840905962647047 : Unit := ()
def tw1308695310843806881 : Unit := ()
def tw7427585789373065701 : Unit := ()
def tw11061453481831113290 : Unit := ()
def tw5507290992870270239 : Unit := ()
def tw12961428062028449224 : Unit := ()
def tw1008413272019516210 : Unit := ()
def tw15781353178097968215 : Unit := ()
def tw3417437817150711627 : Unit := ()
def tw7761643214538095568 : Unit := ()
def tw14479195367438190749 : Unit := ()
def tw5604782786161215101 : Unit := ()
def tw16688711698286002195 : Unit := ()
def tw17392779331282062744 : Unit := ()
def tw11646701254893062979 : Unit := ()
def tw13094494537391550223 : Unit := ()
def tw13763699038303285989 : Unit := ()
def tw7830506002763493941 : Unit := ()
def tw11811779550561115813 : Unit := ()
def tw11992972135095709651 : Unit := ()
def tw5073354547595283122 : Unit := ()
def tw10263497846474752083 : Unit := ()
def tw2697661589381131154 : Unit := ()
def tw12108352065997048485 : Unit := ()
def tw10029354936520270220 : Unit := ()
def tw9927429078118865349 : Unit := ()
def tw7514880397972934349 : Unit := ()
def tw2638421094529719339 : Unit := ()
def tw6262826112905889005 : Unit := ()
def tw14300785952832031215 : Unit := ()
def tw11173053378726787974 : Unit := ()
def tw4089769762417322066 : Unit := ()
def tw2643155037522837824 : Unit := ()
def tw6988033361521459961 : Unit := ()
def tw2838298853645273324 : Unit := ()
def tw9340114309553846626 : Unit := ()
def tw17831019518604354050 : Unit := ()
def tw851816856672181920 : Unit := ()
def tw15048550580553891657 : Unit := ()
def tw16280525913220997605 : Unit := ()
def tw10838203447297099349 : Unit := ()
def tw14706736045113772161 : Unit := ()
def tw16092318581201737734 : Unit := ()
def tw17370749021963827588 : Unit := ()
def tw2357650842570923007 : Unit := ()
def tw1809982922029197057 : Unit := ()
def tw11138450425406737376 : Unit := ()
def tw3286841014992256453 : Unit := ()
def tw7113778668275972429 : Unit := ()
def tw8423075976108436760 : Unit := ()
def tw16015859995967014148 : Unit := ()
def tw6609009485545967250 : Unit := ()
def tw5162780428848578179 : Unit := ()
def tw4365735194482521783 : Unit := ()
def tw4359992112294699107 : Unit := ()
def tw5684211685320555476 : Unit := ()
def tw7303607903303650315 : Unit := ()
def tw14656354098409889906 : Unit := ()
def tw14916979004379582865 : Unit := ()
def tw3812271830850547773 : Unit := ()
def tw13363289799493605607 : Unit := ()
def tw2679247971520338387 : Unit := ()
def tw8895707601789120433 : Unit := ()
def tw5020834250897189061 : Unit := ()
def tw2360680174394173442 : Unit := ()
def tw12291322918277587864 : Unit := ()
def tw13868650073875295882 : Unit := ()
def tw10843984250564826626 : Unit := ()
def tw17628412158488098247 : Unit := ()
def tw10598929004161231030 : Unit := ()
def tw10003623799460836683 : Unit := ()
def tw10367310748238989973 : Unit := ()
def tw6232752170343711667 : Unit := ()
def tw11439642669861147102 : Unit := ()
def tw16598694009728511355 : Unit := ()
def tw13620840933730990122 : Unit := ()
def tw16214196198188310736 : Unit := ()
def tw10029767307776278791 : Unit := ()
def tw8820121165482847547 : Unit := ()
def tw18407445892352891992 : Unit := ()
def tw2925922441145540784 : Unit := ()
def tw3297106446394857654 : Unit := ()
def tw10998223192320146559 : Unit := ()
def tw9882105058708433540 : Unit := ()
def tw188204645721700115 : Unit := ()
def tw930204313362377746 : Unit := ()
def tw1063506390327401484 : Unit := ()
def tw14984446578223975462 : Unit := ()
def tw5332628090230288485 : Unit := ()
def tw3584806432568465936 : Unit := ()
def tw16173933550772908828 : Unit := ()
def tw17295933130121743976 : Unit := ()
def tw8855437058182701721 : Unit := ()
def tw17921890933677473824 : Unit := ()
def tw6790545416250552927 : Unit := ()
def tw13088694230402243396 : Unit := ()
def tw15836540254964981609 : Unit := ()
def tw9722416746330501241 : Unit := ()
def tw4321644314097407455 : Unit := ()
def tw7369161880236267840 : Unit := ()
def tw10303530002103240513 : Unit := ()
def tw12023695139218391827 : Unit := ()
def tw10346580764745508083 : Unit := ()
def tw10496113858887208257 : Unit := ()
def tw4172840186059484499 : Unit := ()
def tw3056044720029187958 : Unit := ()
def tw9098015211825991429 : Unit := ()
def tw1621914635270108037 : Unit := ()
def tw3131150212232190778 : Unit := ()
def tw1049511112777991768 : Unit := ()
def tw3550227155082535905 : Unit := ()
def tw122551269810694988 : Unit := ()
def tw12393313190702531101 : Unit := ()
def tw15105778248582435235 : Unit := ()
def tw11034064431510009346 : Unit := ()
def tw13829383039555197098 : Unit := ()
def tw9602751298259658956 : Unit := ()
def tw5533484958933651382 : Unit := ()
def tw10204703868363217440 : Unit := ()
def tw18228784900224255142 : Unit := ()
def tw10611647522629310274 : Unit := ()
def tw13201560429931716044 : Unit := ()
def tw8249727891121465133 : Unit := ()
def tw16661220804901166189 : Unit := ()
def tw11952596490636068948 : Unit := ()
def tw11375002080402736243 : Unit := ()
def tw9529306562481719682 : Unit := ()
def tw5015358450107227576 : Unit := ()
def tw2887071661169740338 : Unit := ()
def tw14736736515530187987 : Unit := ()
def tw10662487492258044518 : Unit := ()
def tw7909155369432807784 : Unit := ()
def tw5999815588808044857 : Unit := ()
def tw68621454464597402 : Unit := ()
def tw12186505731400616351 : Unit := ()
def tw1004393267348183673 : Unit := ()
def tw11211291954956189078 : Unit := ()
def tw3697500719074506641 : Unit := ()
def tw6441034200085045772 : Unit := ()
def tw16494671876365883899 : Unit := ()
def tw9495616002358639406 : Unit := ()
def tw10843285091471547786 : Unit := ()
def tw12969761408532764734 : Unit := ()
def tw12269192881584996500 : Unit := ()
end PySem.W.Fast
open PySem PySem.W PyProof.Rows
set_option maxRecDepth 100000 in
set_option maxHeartbeats 0 in
theorem PySem.Challenge.cw_spreadnodes_s01_answers_holds : PySem.Challenge.rw_spreadnodes_s01_answers.Holds := by
  w_on; k_headS; (case hw => exact ⟨[.list []], by decide +kernel, by decide +kernel⟩)
  k_fillS
  refine L2.walk_specK (r := PySem.Challenge.rw_spreadnodes_s01_answers) (k := 10) (CX := L2.CX0) (ps := ["calls"]) (sp := Sn.sp_answers) (by decide +kernel) rfl rfl ⟨rfl, by decide, by decide⟩ (fun w h Y => PySem.W.kIn_of Y) ?F ?S (fun _ _ _ _ z => z)
  case F =>
    intro w mg fa h Y KX G hmg
    refine' Sn.final KX G hmg ⟨?d_is_code, ?d_rows_above, ?d_document_rows, ?d_document_bytes, ?d_node_bytes, ?d_place_of, ?d_cut, ?d_is_missing, ?d_is_rising, ?d_is_unfit, ?d_plus, ?d_inverse, ?d_times, ?d_value_at, ?d_divided_differences, ?d_with_root, ?d_rows_through, ?d_square_of, ?d_rows_of_node, ?d_lower_left, ?d_likely_document, ?d_nodes_apart, ?d_told_document, ?d_part_for, ?d_made_again, ?d_are_agreeing, ?d_alone_at, ?d_changed_rows, ?d_wrong_nodes, ?d_judge, ?d_store, ?d_tell, ?d_part, ?d_again, ?d_agree, ?d_change, ?d_wrong, ?d_nodes_left, ?d_has_lost, ?d_rows_of_nodes, ?d_state, ?d_node_rows, ?d_lose, ?d_spoil, ?d_read, ?d_look, ?d_mend, ?d_edit, ?d_build, ?d_call_at, ?d_code_from, ?d_answer_of_code, ?d_answer_of_cluster, ?d_answer_to, ?d_answers, ?k_Code, ?k_Cluster, ?k_Call, ?c_NO_SUCH, ?c_NOT_BUILT, ?c_NOT_LET, ?c_UNFIT, ?c_APART, ?n_len, ?n_range, ?n_zip, ?n_min, ?n_max, ?n_any, ?n_all, ?n_list, ?n_reversed, ?n_enumerate, ?t_POWERS, ?t_EXPONENTS, ?t_SHAPES⟩
    case d_is_code =>
      refine' Sn.df ?a ?l ?c ?k
      (case a => k_is); (case l => k_is); (case c => k_is); (case k => k_is)
    case d_rows_above =>
      refine' Sn.df ?a ?l ?c ?k
      (case a => k_is); (case l => k_is); (case c => k_is); (case k => k_is)
    case d_document_rows =>
      refine' Sn.df ?a ?l ?c ?k
      (case a => k_is); (case l => k_is); (case c => k_is); (case k => k_is)
    case d_document_bytes =>
      refine' Sn.df ?a ?l ?c ?k
      (case a => k_is); (case l => k_is); (case c => k_is); (case k => k_is)
    case d_node_bytes =>
      refine' Sn.df ?a ?l ?c ?k
      (case a => k_is); (case l => k_is); (case c => k_is); (case k => k_is)
    case d_place_of =>
      refine' Sn.df ?a ?l ?c ?k
      (case a => k_is); (case l => k_is); (case c => k_is); (case k => k_is)
    case d_cut =>
      refine' Sn.df ?a ?l ?c ?k
      (case a => k_is); (case l => k_is); (case c => k_is); (case k => k_is)
    case d_is_missing =>
      refine' Sn.df ?a ?l ?c ?k
      (case a => k_is); (case l => k_is); (case c => k_is); (case k => k_is)
    case d_is_rising =>
      refine' Sn.df ?a ?l ?c ?k
      (case a => k_is); (case l => k_is); (case c => k_is); (case k => k_is)
    case d_is_unfit =>
      refine' Sn.df ?a ?l ?c ?k
      (case a => k_is); (case l => k_is); (case c => k_is); (case k => k_is)
    case d_plus =>
      refine' Sn.df ?a ?l ?c ?k
      (case a => k_is); (case l => k_is); (case c => k_is); (case k => k_is)
    case d_inverse =>
      refine' Sn.df ?a ?l ?c ?k
      (case a => k_is); (case l => k_is); (case c => k_is); (case k => k_is)
    case d_times =>
      refine' Sn.df ?a ?l ?c ?k
      (case a => k_is); (case l => k_is); (case c => k_is); (case k => k_is)
    case d_value_at =>
      refine' Sn.df ?a ?l ?c ?k
      (case a => k_is); (case l => k_is); (case c => k_is); (case k => k_is)
    case d_divided_differences =>
      refine' Sn.df ?a ?l ?c ?k
      (case a => k_is); (case l => k_is); (case c => k_is); (case k => k_is)
    case d_with_root =>
      refine' Sn.df ?a ?l ?c ?k
      (case a => k_is); (case l => k_is); (case c => k_is); (case k => k_is)
    case d_rows_through =>
      refine' Sn.df ?a ?l ?c ?k
      (case a => k_is); (case l => k_is); (case c => k_is); (case k => k_is)
    case d_square_of =>
      refine' Sn.df ?a ?l ?c ?k
      (case a => k_is); (case l => k_is); (case c => k_is); (case k => k_is)
    case d_rows_of_node =>
      refine' Sn.df ?a ?l ?c ?k
      (case a => k_is); (case l => k_is); (case c => k_is); (case k => k_is)
    case d_lower_left =>
      refine' Sn.df ?a ?l ?c ?k
      (case a => k_is); (case l => k_is); (case c => k_is); (case k => k_is)
    case d_likely_document =>
      refine' Sn.df ?a ?l ?c ?k
      (case a => k_is); (case l => k_is); (case c => k_is); (case k => k_is)
    case d_nodes_apart =>
      refine' Sn.df ?a ?l ?c ?k
      (case a => k_is); (case l => k_is); (case c => k_is); (case k => k_is)
    case d_told_document =>
      refine' Sn.df ?a ?l ?c ?k
      (case a => k_is); (case l => k_is); (case c => k_is); (case k => k_is)
    case d_part_for =>
      refine' Sn.df ?a ?l ?c ?k
      (case a => k_is); (case l => k_is); (case c => k_is); (case k => k_is)
    case d_made_again =>
      refine' Sn.df ?a ?l ?c ?k
      (case a => k_is); (case l => k_is); (case c => k_is); (case k => k_is)
    case d_are_agreeing =>
      refine' Sn.df ?a ?l ?c ?k
      (case a => k_is); (case l => k_is); (case c => k_is); (case k => k_is)
    case d_alone_at =>
      refine' Sn.df ?a ?l ?c ?k
      (case a => k_is); (case l => k_is); (case c => k_is); (case k => k_is)
    case d_changed_rows =>
      refine' Sn.df ?a ?l ?c ?k
      (case a => k_is); (case l => k_is); (case c => k_is); (case k => k_is)
    case d_wrong_nodes =>
      refine' Sn.df ?a ?l ?c ?k
      (case a => k_is); (case l => k_is); (case c => k_is); (case k => k_is)
    case d_judge =>
      refine' Sn.df ?a ?l ?c ?k
      (case a => k_is); (case l => k_is); (case c => k_is); (case k => k_is)
    case d_store =>
      refine' Sn.df ?a ?l ?c ?k
      (case a => k_is); (case l => k_is); (case c => k_is); (case k => k_is)
    case d_tell =>
      refine' Sn.df ?a ?l ?c ?k
      (case a => k_is); (case l => k_is); (case c => k_is); (case k => k_is)
    case d_part =>
      refine' Sn.df ?a ?l ?c ?k
      (case a => k_is); (case l => k_is); (case c => k_is); (case k => k_is)
    case d_again =>
      refine' Sn.df ?a ?l ?c ?k
      (case a => k_is); (case l => k_is); (case c => k_is); (case k => k_is)
    case d_agree =>
      refine' Sn.df ?a ?l ?c ?k
      (case a => k_is); (case l => k_is); (case c => k_is); (case k => k_is)
    case d_change =>
      refine' Sn.df ?a ?l ?c ?k
      (case a => k_is); (case l => k_is); (case c => k_is); (case k => k_is)
    case d_wrong =>
      refine' Sn.df ?a ?l ?c ?k
      (case a => k_is); (case l => k_is); (case c => k_is); (case k => k_is)
    case d_nodes_left =>
      refine' Sn.df ?a ?l ?c ?k
      (case a => k_is); (case l => k_is); (case c => k_is); (case k => k_is)
    case d_has_lost =>
      refine' Sn.df ?a ?l ?c ?k
      (case a => k_is); (case l => k_is); (case c => k_is); (case k => k_is)
    case d_rows_of_nodes =>
      refine' Sn.df ?a ?l ?c ?k
      (case a => k_is); (case l => k_is); (case c => k_is); (case k => k_is)
    case d_state =>
      refine' Sn.df ?a ?l ?c ?k
      (case a => k_is); (case l => k_is); (case c => k_is); (case k => k_is)
    case d_node_rows =>
      refine' Sn.df ?a ?l ?c ?k
      (case a => k_is); (case l => k_is); (case c => k_is); (case k => k_is)
    case d_lose =>
      refine' Sn.df ?a ?l ?c ?k
      (case a => k_is); (case l => k_is); (case c => k_is); (case k => k_is)
    case d_spoil =>
      refine' Sn.df ?a ?l ?c ?k
      (case a => k_is); (case l => k_is); (case c => k_is); (case k => k_is)
    case d_read =>
      refine' Sn.df ?a ?l ?c ?k
      (case a => k_is); (case l => k_is); (case c => k_is); (case k => k_is)
    case d_look =>
      refine' Sn.df ?a ?l ?c ?k
      (case a => k_is); (case l => k_is); (case c => k_is); (case k => k_is)
    case d_mend =>
      refine' Sn.df ?a ?l ?c ?k
      (case a => k_is); (case l => k_is); (case c => k_is); (case k => k_is)
    case d_edit =>
      refine' Sn.df ?a ?l ?c ?k
      (case a => k_is); (case l => k_is); (case c => k_is); (case k => k_is)
    case d_build =>
      refine' Sn.df ?a ?l ?c ?k
      (case a => k_is); (case l => k_is); (case c => k_is); (case k => k_is)
    case d_call_at =>
      refine' Sn.df ?a ?l ?c ?k
      (case a => k_is); (case l => k_is); (case c => k_is); (case k => k_is)
    case d_code_from =>
      refine' Sn.df ?a ?l ?c ?k
      (case a => k_is); (case l => k_is); (case c => k_is); (case k => k_is)
    case d_answer_of_code =>
      refine' Sn.df ?a ?l ?c ?k
      (case a => k_is); (case l => k_is); (case c => k_is); (case k => k_is)
    case d_answer_of_cluster =>
      refine' Sn.df ?a ?l ?c ?k
      (case a => k_is); (case l => k_is); (case c => k_is); (case k => k_is)
    case d_answer_to =>
      refine' Sn.df ?a ?l ?c ?k
      (case a => k_is); (case l => k_is); (case c => k_is); (case k => k_is)
    case d_answers =>
      refine' Sn.df ?a ?l ?c ?k
      (case a => k_is); (case l => k_is); (case c => k_is); (case k => k_is)
    case k_Code =>
      refine' ⟨_, Sn.kf ?aC ?a1 ?i1 ?l1 ?c1 ?k1 ?pg ?hd ?po ?sa ?mk ?kc, ?n0, ?n1, ?n2, ?n3⟩
      (case aC => k_is); (case a1 => k_is); (case i1 => k_is); (case l1 => k_is); (case c1 => k_is); (case k1 => k_is)
      (case pg => k_is); (case hd => k_is); (case po => k_is); (case sa => k_is); (case mk => k_is); (case kc => k_is)
      (case n0 => unfold Sn.NA; k_is)
      (case n1 => unfold Sn.NA; k_is)
      (case n2 => unfold Sn.NA; k_is)
      (case n3 => unfold Sn.NA; k_is)
    case k_Cluster =>
      refine' ⟨_, Sn.kf ?aC ?a1 ?i1 ?l1 ?c1 ?k1 ?pg ?hd ?po ?sa ?mk ?kc, ?n0, ?n1⟩
      (case aC => k_is); (case a1 => k_is); (case i1 => k_is); (case l1 => k_is); (case c1 => k_is); (case k1 => k_is)
      (case pg => k_is); (case hd => k_is); (case po => k_is); (case sa => k_is); (case mk => k_is); (case kc => k_is)
      (case n0 => unfold Sn.NA; k_is)
      (case n1 => unfold Sn.NA; k_is)
    case k_Call =>
      refine' ⟨_, Sn.kf ?aC ?a1 ?i1 ?l1 ?c1 ?k1 ?pg ?hd ?po ?sa ?mk ?kc, ?n0, ?n1, ?n2, ?n3⟩
      (case aC => k_is); (case a1 => k_is); (case i1 => k_is); (case l1 => k_is); (case c1 => k_is); (case k1 => k_is)
      (case pg => k_is); (case hd => k_is); (case po => k_is); (case sa => k_is); (case mk => k_is); (case kc => k_is)
      (case n0 => unfold Sn.NA; k_is)
      (case n1 => unfold Sn.NA; k_is)
      (case n2 => unfold Sn.NA; k_is)
      (case n3 => unfold Sn.NA; k_is)
    case c_NO_SUCH =>
      refine' Sn.ci_mk ?a ?b
      (case a => k_is); (case b => rfl)
    case c_NOT_BUILT =>
      refine' Sn.ci_mk ?a ?b
      (case a => k_is); (case b => rfl)
    case c_NOT_LET =>
      refine' Sn.ci_mk ?a ?b
      (case a => k_is); (case b => rfl)
    case c_UNFIT =>
      refine' Sn.ci_mk ?a ?b
      (case a => k_is); (case b => rfl)
    case c_APART =>
      refine' Sn.ci_mk ?a ?b
      (case a => k_is); (case b => rfl)
    case n_len => unfold Sn.NIn; k_is
    case n_range => unfold Sn.NIn; k_is
    case n_zip => unfold Sn.NIn; k_is
    case n_min => unfold Sn.NIn; k_is
    case n_max => unfold Sn.NIn; k_is
    case n_any => unfold Sn.NIn; k_is
    case n_all => unfold Sn.NIn; k_is
    case n_list => unfold Sn.NIn; k_is
    case n_reversed => unfold Sn.NIn; k_is
    case n_enumerate => unfold Sn.NIn; k_is
    case t_POWERS =>
      refine' Sn.tab_mk ?m ?l ?z ?e
      (case m => k_is); (case l => k_is); (case z => decide +kernel); (case e => decide +kernel)
    case t_EXPONENTS =>
      refine' Sn.tab_mk ?m ?l ?z ?e
      (case m => k_is); (case l => k_is); (case z => decide +kernel); (case e => decide +kernel)
    case t_SHAPES =>
      refine' Sn.sh_mk ?m ?l ?p0 ?p1 ?p2 ?p3 ?p4 ?p5 ?p6 ?p7 ?p8 ?p9 ?p10 ?p11 ?p12 ?p13 ?p14 ?p15 ?p16
      (case m => k_is); (case l => k_is)
      (case p0 => refine' Sn.pair_mk ?l ?e1 ?e2; (case l => k_is); (case e1 => rfl); (case e2 => rfl))
      (case p1 => refine' Sn.pair_mk ?l ?e1 ?e2; (case l => k_is); (case e1 => rfl); (case e2 => rfl))
      (case p2 => refine' Sn.pair_mk ?l ?e1 ?e2; (case l => k_is); (case e1 => rfl); (case e2 => rfl))
      (case p3 => refine' Sn.pair_mk ?l ?e1 ?e2; (case l => k_is); (case e1 => rfl); (case e2 => rfl))
      (case p4 => refine' Sn.pair_mk ?l ?e1 ?e2; (case l => k_is); (case e1 => rfl); (case e2 => rfl))
      (case p5 => refine' Sn.pair_mk ?l ?e1 ?e2; (case l => k_is); (case e1 => rfl); (case e2 => rfl))
      (case p6 => refine' Sn.pair_mk ?l ?e1 ?e2; (case l => k_is); (case e1 => rfl); (case e2 => rfl))
      (case p7 => refine' Sn.pair_mk ?l ?e1 ?e2; (case l => k_is); (case e1 => rfl); (case e2 => rfl))
      (case p8 => refine' Sn.pair_mk ?l ?e1 ?e2; (case l => k_is); (case e1 => rfl); (case e2 => rfl))
      (case p9 => refine' Sn.pair_mk ?l ?e1 ?e2; (case l => k_is); (case e1 => rfl); (case e2 => rfl))
      (case p10 => refine' Sn.pair_mk ?l ?e1 ?e2; (case l => k_is); (case e1 => rfl); (case e2 => rfl))
      (case p11 => refine' Sn.pair_mk ?l ?e1 ?e2; (case l => k_is); (case e1 => rfl); (case e2 => rfl))
      (case p12 => refine' Sn.pair_mk ?l ?e1 ?e2; (case l => k_is); (case e1 => rfl); (case e2 => rfl))
      (case p13 => refine' Sn.pair_mk ?l ?e1 ?e2; (case l => k_is); (case e1 => rfl); (case e2 => rfl))
      (case p14 => refine' Sn.pair_mk ?l ?e1 ?e2; (case l => k_is); (case e1 => rfl); (case e2 => rfl))
      (case p15 => refine' Sn.pair_mk ?l ?e1 ?e2; (case l => k_is); (case e1 => rfl); (case e2 => rfl))
      (case p16 => refine' Sn.pair_mk ?l ?e1 ?e2; (case l => k_is); (case e1 => rfl); (case e2 => rfl))
  case S =>
    intro K H xs a hO hwi hask hx
    cases hx with
    | cons h1 h2 =>
      cases h2
      cases h1 with
      | lst hs ha =>
        have e := L2.ints_dw a.1 _ ha
        subst e
        have q : ((Codec.inLen 0 30000 a.1 && a.1.all (Codec.inInt 0 4294967295)) && true) = true := hwi
        rw [Bool.and_eq_true, Bool.and_eq_true] at q
        have hl := (Codec.inNat_iff.mp q.1.1).2
        exact ⟨_, a.1, rfl, hs, by omega, hask, fun H' p hp => .lst (L2.SqL.of hp) (L2.dw_ints _)⟩
