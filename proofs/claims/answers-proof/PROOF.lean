import PyProof.Rows.All
import Wide.All
import OpenK.AllK
import Wide.FinOn
import Open.SpecLaws
import KE.OsGo
import HandS.Base
import HandS.Call
import HandS.List
import HandS.Comp
import HandS.Dict
import HandS.Iter
import HandS.Walk
import HandS.Words
import HandS.WordsList
import HandS.WordsDict
import HandS.Text
import HandS.DictTup
import KE.IntBitsLaws
import HandS.Spec
import HandS.CallLocal
import HandS.WideBits
import KE.KDictZip
import PySem.Challenge.RW_bitclauses_s01_answers
set_option Elab.async false
set_option linter.all false
/-! What gates mean: the literals of a term tell its value. Plain Lean over the specification. -/
namespace BS
open Sm03
def lv (val : Nat → Bool) (l : Nat) : Bool := if l % 2 = 0 then val (l / 2) else !val (l / 2)
structure Con (val : Nat → Bool) (g : Graph) : Prop where
  zero : val 0 = false
  gate : ∀ i a b, g[i]? = some (Node.gate a b) → val (i + 1) = (lv val a && lv val b)
theorem Con.pre {val : Nat → Bool} {g g' : Graph} (h : Con val g') (p : g <+: g') : Con val g := by
  obtain ⟨t, rfl⟩ := p
  refine ⟨h.zero, fun i a b e => h.gate i a b ?_⟩
  have hi : i < g.length := (List.getElem?_eq_some_iff.mp e).1
  rw [List.getElem?_append_left hi]
  exact e
section
variable {val : Nat → Bool}
theorem lv_zero (h : val 0 = false) : lv val 0 = false := h
theorem lv_one (h : val 0 = false) : lv val 1 = true := by show (!val 0) = true; rw [h]; rfl
theorem lv_not (l : Nat) : lv val (not_ l) = !lv val l := by
  unfold lv not_
  by_cases h : l % 2 = 0
  · rw [if_pos h, if_pos h, if_neg (by omega), show (l + 1) / 2 = l / 2 by omega]
  · rw [if_neg h, if_neg h, if_pos (by omega), show (l - 1) / 2 = l / 2 by omega, Bool.not_not]
theorem lv_even (n : Nat) : lv val (2 * n) = val n := by
  unfold lv
  rw [if_pos (by omega), show 2 * n / 2 = n by omega]
end
/-! ### the graph only grows -/
theorem and_pre (g : Graph) (a b : Nat) : g <+: (and_ g a b).1 := by
  unfold and_
  dsimp only
  repeat' split
  all_goals first | exact List.prefix_refl _ | exact List.prefix_append _ _
theorem or_pre (g : Graph) (a b : Nat) : g <+: (or_ g a b).1 := and_pre _ _ _
theorem xor_pre (g : Graph) (a b : Nat) : g <+: (xor_ g a b).1 := (and_pre _ _ _).trans ((and_pre _ _ _).trans (or_pre _ _ _))
theorem mux_pre (g : Graph) (c a b : Nat) : g <+: (mux g c a b).1 := (and_pre _ _ _).trans ((and_pre _ _ _).trans (or_pre _ _ _))
/-! ### one literal -/
section
variable {val : Nat → Bool}
theorem and_sem {g : Graph} {a b : Nat} (h : Con val (and_ g a b).1) : lv val (and_ g a b).2 = (lv val a && lv val b) := by
  have hz := h.zero
  have key : lv val (and_ g a b).2 = (lv val (min a b) && lv val (max a b)) := by
    unfold and_ at h ⊢
    dsimp only at h ⊢
    generalize min a b = x at *
    generalize max a b = y at *
    by_cases h0 : x = 0
    · rw [if_pos h0, h0, lv_zero hz]; rfl
    rw [if_neg h0] at h ⊢
    by_cases h1 : x = 1
    · rw [if_pos h1, h1, lv_one hz]; rfl
    rw [if_neg h1] at h ⊢
    by_cases h2 : x = y
    · rw [if_pos h2, h2, Bool.and_self]
    rw [if_neg h2] at h ⊢
    by_cases h3 : x / 2 = y / 2
    · rw [if_pos h3]
      show lv val 0 = _
      rw [lv_zero hz]
      have : y = not_ x := by unfold not_; split <;> omega
      rw [this, lv_not]
      cases lv val x <;> rfl
    rw [if_neg h3] at h ⊢
    cases e : (g.findIdx? fun n => n == Node.gate x y) with
    | some i =>
      rw [e] at h
      dsimp only at h ⊢
      rw [lv_even]
      obtain ⟨hi, hp, _⟩ := List.findIdx?_eq_some_iff_getElem.mp e
      refine h.gate i x y ?_
      rw [List.getElem?_eq_getElem hi]
      congr 1
      exact eq_of_beq hp
    | none =>
      rw [e] at h
      dsimp only at h ⊢
      rw [lv_even]
      refine h.gate g.length x y ?_
      rw [List.getElem?_append_right (Nat.le_refl _), Nat.sub_self]
      rfl
  rw [key]
  by_cases hab : a ≤ b
  · rw [Nat.min_eq_left hab, Nat.max_eq_right hab]
  · rw [Nat.min_eq_right (by omega), Nat.max_eq_left (by omega), Bool.and_comm]
theorem or_sem {g : Graph} {a b : Nat} (h : Con val (or_ g a b).1) : lv val (or_ g a b).2 = (lv val a || lv val b) := by
  show lv val (not_ (and_ g (not_ a) (not_ b)).2) = _
  rw [lv_not, and_sem h, lv_not, lv_not]
  cases lv val a <;> cases lv val b <;> rfl
theorem xor_sem {g : Graph} {a b : Nat} (h : Con val (xor_ g a b).1) : lv val (xor_ g a b).2 = (lv val a != lv val b) := by
  have h2 : Con val (and_ (and_ g a (not_ b)).1 (not_ a) b).1 := h.pre (or_pre _ _ _)
  have h1 : Con val (and_ g a (not_ b)).1 := h2.pre (and_pre _ _ _)
  show lv val (or_ _ _ _).2 = _
  rw [or_sem h, and_sem h2, and_sem h1, lv_not, lv_not]
  cases lv val a <;> cases lv val b <;> rfl
theorem mux_sem {g : Graph} {c a b : Nat} (h : Con val (mux g c a b).1) : lv val (mux g c a b).2 = if lv val c = true then lv val a else lv val b := by
  have h2 : Con val (and_ (and_ g c a).1 (not_ c) b).1 := h.pre (or_pre _ _ _)
  have h1 : Con val (and_ g c a).1 := h2.pre (and_pre _ _ _)
  show lv val (or_ _ _ _).2 = _
  rw [or_sem h, and_sem h2, and_sem h1, lv_not]
  cases lv val c <;> cases lv val a <;> cases lv val b <;> rfl
end
/-! ### words -/
def bv (val : Nat → Bool) (ws : List Nat) : List Bool := ws.map (lv val)
def bn : List Bool → Nat
  | [] => 0
  | b :: r => b.toNat + 2 * bn r
def wv (val : Nat → Bool) (ws : List Nat) : Nat := bn (bv val ws)
theorem tn_lt (b : Bool) : b.toNat ≤ 1 := by cases b <;> decide
theorem bn_lt : ∀ l : List Bool, bn l < 2 ^ l.length
  | [] => by decide
  | b :: r => by
    have := bn_lt r
    have := tn_lt b
    show b.toNat + 2 * bn r < 2 ^ (r.length + 1)
    rw [Nat.pow_succ]
    omega
theorem wv_lt (val : Nat → Bool) (ws : List Nat) : wv val ws < 2 ^ ws.length := by
  have := bn_lt (bv val ws)
  rw [show (bv val ws).length = ws.length from List.length_map ..] at this
  exact this
theorem wv_cons (val : Nat → Bool) (x : Nat) (l : List Nat) : wv val (x :: l) = (lv val x).toNat + 2 * wv val l := rfl
theorem bn_app : ∀ (a b : List Bool), bn (a ++ b) = bn a + 2 ^ a.length * bn b
  | [], b => by show bn b = 0 + 1 * bn b; omega
  | x :: r, b => by
    show x.toNat + 2 * bn (r ++ b) = x.toNat + 2 * bn r + 2 ^ (r.length + 1) * bn b
    rw [bn_app r b, Nat.pow_succ, Nat.mul_add, ← Nat.mul_assoc, Nat.mul_comm (2 ^ r.length) 2]
    omega
theorem wv_app (val : Nat → Bool) (a b : List Nat) : wv val (a ++ b) = wv val a + 2 ^ a.length * wv val b := by
  unfold wv bv
  rw [List.map_append, bn_app, List.length_map]
theorem bn_take : ∀ (n : Nat) (l : List Bool), bn (l.take n) = bn l % 2 ^ n
  | 0, l => by rw [Nat.pow_zero, Nat.mod_one]; rfl
  | n + 1, [] => by show 0 = 0 % _; rw [Nat.zero_mod]
  | n + 1, x :: r => by
    show x.toNat + 2 * bn (r.take n) = (x.toNat + 2 * bn r) % 2 ^ (n + 1)
    rw [bn_take n r, Nat.pow_succ, Nat.mul_comm (2 ^ n) 2, Nat.mod_mul]
    have := tn_lt x
    rw [show (x.toNat + 2 * bn r) % 2 = x.toNat by omega, show (x.toNat + 2 * bn r) / 2 = bn r by omega]
theorem bn_drop : ∀ (n : Nat) (l : List Bool), bn (l.drop n) = bn l / 2 ^ n
  | 0, l => by rw [Nat.pow_zero, Nat.div_one]; rfl
  | n + 1, [] => by show 0 = 0 / _; rw [Nat.zero_div]
  | n + 1, x :: r => by
    show bn (r.drop n) = (x.toNat + 2 * bn r) / 2 ^ (n + 1)
    rw [bn_drop n r, Nat.pow_succ, Nat.mul_comm (2 ^ n) 2, ← Nat.div_div_eq_div_mul]
    have := tn_lt x
    rw [show (x.toNat + 2 * bn r) / 2 = bn r by omega]
theorem wv_take (val : Nat → Bool) (n : Nat) (l : List Nat) : wv val (l.take n) = wv val l % 2 ^ n := by
  unfold wv bv
  rw [List.map_take, bn_take]
theorem wv_drop (val : Nat → Bool) (n : Nat) (l : List Nat) : wv val (l.drop n) = wv val l / 2 ^ n := by
  unfold wv bv
  rw [List.map_drop, bn_drop]
theorem bn_inj : ∀ {a b : List Bool}, a.length = b.length → bn a = bn b → a = b
  | [], [], _, _ => rfl
  | [], _ :: _, h, _ => by cases h
  | _ :: _, [], h, _ => by cases h
  | x :: r, y :: s, h, e => by
    have e : x.toNat + 2 * bn r = y.toNat + 2 * bn s := e
    have hx := tn_lt x
    have hy := tn_lt y
    have e1 : x.toNat = y.toNat := by omega
    have e2 : bn r = bn s := by omega
    rw [bn_inj (Nat.succ.inj h) e2]
    cases x <;> cases y <;> first | rfl | cases e1
section
variable {val : Nat → Bool}
theorem wv_zeros (hz : val 0 = false) : ∀ n : Nat, wv val (List.replicate n 0) = 0
  | 0 => rfl
  | n + 1 => by
    rw [List.replicate_succ, wv_cons, wv_zeros hz n, lv_zero hz]
    rfl
theorem wv_noes (hz : val 0 = false) (a : List Nat) : wv val (noes a) = 0 := by
  rw [show noes a = List.replicate a.length 0 from List.map_const' ..]
  exact wv_zeros hz _
theorem wv_not : ∀ a : List Nat, wv val (a.map not_) + wv val a + 1 = 2 ^ a.length
  | [] => rfl
  | x :: l => by
    have := wv_not l
    show wv val (not_ x :: l.map not_) + wv val (x :: l) + 1 = 2 ^ (l.length + 1)
    rw [wv_cons, wv_cons, lv_not, Nat.pow_succ]
    cases lv val x
    · show 1 + 2 * _ + (0 + 2 * _) + 1 = _
      omega
    · show 0 + 2 * _ + (1 + 2 * _) + 1 = _
      omega
end
/-! ### bit by bit -/
section
variable {f : Graph → Nat → Nat → Graph × Nat}
theorem each2_pre (hf : ∀ g x y, g <+: (f g x y).1) : ∀ (a b : List Nat) (g : Graph), g <+: (each2 f g a b).1
  | [], _, g => List.prefix_refl _
  | _ :: _, [], g => List.prefix_refl _
  | x :: l, y :: r, g => (hf g x y).trans (each2_pre hf l r (f g x y).1)
theorem each2_len : ∀ (a b : List Nat) (g : Graph), a.length = b.length → (each2 f g a b).2.length = a.length
  | [], _, g, _ => rfl
  | x :: l, [], g, h => by cases h
  | x :: l, y :: r, g, h => by
    show (each2 f (f g x y).1 l r).2.length + 1 = l.length + 1
    rw [each2_len l r _ (Nat.succ.inj h)]
theorem each2_sem {val : Nat → Bool} {op : Bool → Bool → Bool} (hf : ∀ g x y, g <+: (f g x y).1) (hs : ∀ g x y, Con val (f g x y).1 → lv val (f g x y).2 = op (lv val x) (lv val y)) :
    ∀ (a b : List Nat) (g : Graph), a.length = b.length → Con val (each2 f g a b).1 → bv val (each2 f g a b).2 = List.zipWith op (bv val a) (bv val b)
  | [], [], g, _, _ => rfl
  | [], _ :: _, g, h, _ => by cases h
  | _ :: _, [], g, h, _ => by cases h
  | x :: l, y :: r, g, h, c => by
    have c1 : Con val (each2 f (f g x y).1 l r).1 := c
    have c0 : Con val (f g x y).1 := c1.pre (each2_pre hf l r _)
    show lv val (f g x y).2 :: bv val (each2 f (f g x y).1 l r).2 = op (lv val x) (lv val y) :: List.zipWith op (bv val l) (bv val r)
    rw [hs g x y c0, each2_sem hf hs l r _ (Nat.succ.inj h) c1]
end
theorem zip_and : ∀ (a b : List Bool), a.length = b.length → bn (List.zipWith (fun x y => x && y) a b) = andBits a.length (bn a) (bn b)
  | [], [], _ => rfl
  | [], _ :: _, h => by cases h
  | _ :: _, [], h => by cases h
  | x :: r, y :: s, h => by
    show (x && y).toNat + 2 * bn (List.zipWith _ r s) = ((x.toNat + 2 * bn r) % 2) * ((y.toNat + 2 * bn s) % 2) + 2 * andBits r.length ((x.toNat + 2 * bn r) / 2) ((y.toNat + 2 * bn s) / 2)
    have hx := tn_lt x
    have hy := tn_lt y
    rw [zip_and r s (Nat.succ.inj h), show (x.toNat + 2 * bn r) % 2 = x.toNat by omega, show (y.toNat + 2 * bn s) % 2 = y.toNat by omega, show (x.toNat + 2 * bn r) / 2 = bn r by omega, show (y.toNat + 2 * bn s) / 2 = bn s by omega]
    congr 1
    cases x <;> cases y <;> rfl
theorem zip_xor : ∀ (a b : List Bool), a.length = b.length → bn (List.zipWith (fun x y => x != y) a b) = xorBits a.length (bn a) (bn b)
  | [], [], _ => rfl
  | [], _ :: _, h => by cases h
  | _ :: _, [], h => by cases h
  | x :: r, y :: s, h => by
    show (x != y).toNat + 2 * bn (List.zipWith _ r s) = (x.toNat + 2 * bn r + (y.toNat + 2 * bn s)) % 2 + 2 * xorBits r.length ((x.toNat + 2 * bn r) / 2) ((y.toNat + 2 * bn s) / 2)
    have hx := tn_lt x
    have hy := tn_lt y
    rw [zip_xor r s (Nat.succ.inj h), show (x.toNat + 2 * bn r) / 2 = bn r by omega, show (y.toNat + 2 * bn s) / 2 = bn s by omega]
    congr 1
    cases x <;> cases y <;> simp only [Bool.toNat_true, Bool.toNat_false, bne_self_eq_false, Bool.true_bne, Bool.false_bne, Bool.not_false, Bool.not_true] <;> omega
theorem zip_or : ∀ (a b : List Bool), a.length = b.length → bn (List.zipWith (fun x y => x || y) a b) + bn (List.zipWith (fun x y => x && y) a b) = bn a + bn b
  | [], [], _ => rfl
  | [], _ :: _, h => by cases h
  | _ :: _, [], h => by cases h
  | x :: r, y :: s, h => by
    have ih := zip_or r s (Nat.succ.inj h)
    show (x || y).toNat + 2 * bn (List.zipWith _ r s) + ((x && y).toNat + 2 * bn (List.zipWith _ r s)) = x.toNat + 2 * bn r + (y.toNat + 2 * bn s)
    have : (x || y).toNat + (x && y).toNat = x.toNat + y.toNat := by cases x <;> cases y <;> rfl
    omega
end BS

set_option Elab.async false
set_option linter.all false
namespace BS
open Sm03
/-! ### sums -/
theorem adds_pre : ∀ (a b : List Nat) (g : Graph) (c : Nat), g <+: (adds g c a b).1
  | [], _, g, _ => List.prefix_refl _
  | _ :: _, [], g, _ => List.prefix_refl _
  | x :: l, y :: r, g, c =>
    let p := xor_ g x y
    let s := xor_ p.1 p.2 c
    let e := and_ s.1 x y
    let f := and_ e.1 p.2 c
    let z := or_ f.1 e.2 f.2
    have h1 : g <+: p.1 := xor_pre g x y
    have h2 : p.1 <+: s.1 := xor_pre _ _ _
    have h3 : s.1 <+: e.1 := and_pre _ _ _
    have h4 : e.1 <+: f.1 := and_pre _ _ _
    have h5 : f.1 <+: z.1 := or_pre _ _ _
    have h6 : z.1 <+: (adds z.1 z.2 l r).1 := adds_pre l r _ _
    h1.trans (h2.trans (h3.trans (h4.trans (h5.trans h6))))
theorem adds_out : ∀ (a b : List Nat) (g : Graph) (c : Nat), a.length = b.length → (adds g c a b).2.1.length = a.length
  | [], _, g, _, _ => rfl
  | x :: l, [], g, _, h => by cases h
  | x :: l, y :: r, g, c, h => congrArg Nat.succ (adds_out l r _ _ (Nat.succ.inj h))
theorem adds_sem {val : Nat → Bool} : ∀ (a b : List Nat) (g : Graph) (c : Nat), a.length = b.length → Con val (adds g c a b).1 →
    wv val (adds g c a b).2.1 + 2 ^ a.length * (lv val (adds g c a b).2.2).toNat = wv val a + wv val b + (lv val c).toNat
  | [], [], g, c, _, _ => by
    show 0 + 1 * (lv val c).toNat = 0 + 0 + _
    omega
  | [], _ :: _, g, _, h, _ => by cases h
  | _ :: _, [], g, _, h, _ => by cases h
  | x :: l, y :: r, g, c, h, k => by
    let p := xor_ g x y
    let s := xor_ p.1 p.2 c
    let e := and_ s.1 x y
    let f := and_ e.1 p.2 c
    let z := or_ f.1 e.2 f.2
    have kr : Con val (adds z.1 z.2 l r).1 := k
    have kz : Con val z.1 := kr.pre (adds_pre l r _ _)
    have kf : Con val f.1 := kz.pre (or_pre _ _ _)
    have ke : Con val e.1 := kf.pre (and_pre _ _ _)
    have ks : Con val s.1 := ke.pre (and_pre _ _ _)
    have kp : Con val p.1 := ks.pre (xor_pre _ _ _)
    have hp : lv val p.2 = (lv val x != lv val y) := xor_sem kp
    have hs : lv val s.2 = (lv val p.2 != lv val c) := xor_sem ks
    have he : lv val e.2 = (lv val x && lv val y) := and_sem ke
    have hf : lv val f.2 = (lv val p.2 && lv val c) := and_sem kf
    have hz : lv val z.2 = (lv val e.2 || lv val f.2) := or_sem kz
    have ih := adds_sem l r z.1 z.2 (Nat.succ.inj h) kr
    show wv val (s.2 :: (adds z.1 z.2 l r).2.1) + 2 ^ (l.length + 1) * (lv val (adds z.1 z.2 l r).2.2).toNat = wv val (x :: l) + wv val (y :: r) + (lv val c).toNat
    rw [wv_cons, wv_cons, wv_cons, Nat.pow_succ, Nat.mul_comm (2 ^ l.length) 2, Nat.mul_assoc]
    have key : (lv val s.2).toNat + 2 * (lv val z.2).toNat = (lv val x).toNat + (lv val y).toNat + (lv val c).toNat := by
      rw [hz, hf, he, hs, hp]
      cases lv val x <;> cases lv val y <;> cases lv val c <;> rfl
    omega
theorem mod_of {m r c s : Nat} (h : r + m * c = s) (hr : r < m) : s % m = r := by
  rw [← h, Nat.add_mul_mod_self_left, Nat.mod_eq_of_lt hr]
section
variable {val : Nat → Bool} {g : Graph} {a b : List Nat}
theorem wv_lt' {l : List Nat} {n : Nat} (h : l.length = n) : wv val l < 2 ^ n := by
  rw [← h]
  exact wv_lt val l
theorem add_sem (h : a.length = b.length) (k : Con val (adds g 0 a b).1) : wv val (adds g 0 a b).2.1 = (wv val a + wv val b) % 2 ^ a.length := by
  have e := adds_sem a b g 0 h k
  rw [lv_zero k.zero] at e
  exact (mod_of e (wv_lt' (adds_out a b g 0 h))).symm
theorem subs_eq (h : a.length = b.length) (k : Con val (subs g a b).1) : wv val (subs g a b).2.1 + 2 ^ a.length * (lv val (subs g a b).2.2).toNat + wv val b = wv val a + 2 ^ a.length := by
  have e := adds_sem a (b.map not_) g 1 (by rw [List.length_map]; exact h) k
  rw [lv_one k.zero] at e
  have n := wv_not (val := val) b
  rw [← h] at n
  show wv val (adds g 1 a (b.map not_)).2.1 + 2 ^ a.length * (lv val (adds g 1 a (b.map not_)).2.2).toNat + wv val b = _
  have : (true).toNat = 1 := rfl
  omega
theorem subs_out (h : a.length = b.length) : (subs g a b).2.1.length = a.length := adds_out _ _ _ _ (by rw [List.length_map]; exact h)
theorem subs_pre (g : Graph) (a b : List Nat) : g <+: (subs g a b).1 := adds_pre _ _ _ _
/-- the carry: whether b is at most a -/
theorem subs_carry (h : a.length = b.length) (k : Con val (subs g a b).1) : lv val (subs g a b).2.2 = decide (wv val b ≤ wv val a) := by
  have e := subs_eq h k
  have h1 := wv_lt' (val := val) (subs_out (g := g) h)
  have h2 := wv_lt' (val := val) h.symm
  cases q : lv val (subs g a b).2.2 with
  | false =>
    rw [q] at e
    have : 2 ^ a.length * (false).toNat = 0 := rfl
    exact (decide_eq_false (by omega)).symm
  | true =>
    rw [q] at e
    have : 2 ^ a.length * (true).toNat = 2 ^ a.length := Nat.mul_one _
    exact (decide_eq_true (by omega)).symm
theorem sub_sem (h : a.length = b.length) (k : Con val (subs g a b).1) : wv val (subs g a b).2.1 = (wv val a + 2 ^ a.length - wv val b) % 2 ^ a.length := by
  have e := subs_eq h k
  refine (mod_of (c := (lv val (subs g a b).2.2).toNat) ?_ (wv_lt' (subs_out (g := g) h))).symm
  omega
end
/-! ### products -/
theorem part_pre (g : Graph) (x : Nat) (l : List Nat) : g <+: (part g x l).1 := each2_pre and_pre _ _ _
theorem part_out (g : Graph) (x : Nat) (l : List Nat) : (part g x l).2.length = l.length := by
  have := each2_len (f := and_) (l.map fun _ => x) l g (List.length_map ..)
  rw [List.length_map] at this
  exact this
theorem part_sem {val : Nat → Bool} {x : Nat} : ∀ (l : List Nat) (g : Graph), Con val (part g x l).1 → wv val (part g x l).2 = (lv val x).toNat * wv val l
  | [], g, _ => rfl
  | y :: l, g, k => by
    have k1 : Con val (part (and_ g x y).1 x l).1 := k
    have k0 : Con val (and_ g x y).1 := k1.pre (part_pre _ _ _)
    show wv val ((and_ g x y).2 :: (part (and_ g x y).1 x l).2) = _
    rw [wv_cons, wv_cons, part_sem l _ k1, and_sem k0]
    cases lv val x
    · show 0 + 2 * (0 * _) = 0 * _
      rw [Nat.zero_mul, Nat.zero_mul]
    · show (lv val y).toNat + 2 * (1 * _) = 1 * _
      rw [Nat.one_mul, Nat.one_mul]
theorem muls_pre (w : Nat) (b : List Nat) : ∀ (l : List Nat) (g : Graph) (i : Nat) (acc : List Nat), g <+: (muls w b g l i acc).1
  | [], g, i, acc => List.prefix_refl _
  | x :: l, g, i, acc => (part_pre g x _).trans ((adds_pre _ _ _ _).trans (muls_pre w b l _ _ _))
theorem up_len (m : Nat) (ws : List Nat) : (up m ws).length = ws.length := by
  unfold up
  rw [List.length_take, List.length_append, List.length_replicate]
  omega
theorem up_sem {val : Nat → Bool} (hz : val 0 = false) (m : Nat) (ws : List Nat) : wv val (up m ws) = (wv val ws * 2 ^ m) % 2 ^ ws.length := by
  unfold up
  rw [wv_take, wv_app, wv_zeros hz, List.length_replicate, Nat.zero_add, Nat.mul_comm]
theorem mul_step (M A x i B L : Nat) : ((A + x * (B * 2 ^ i % M)) % M + L * 2 ^ (i + 1) * B) % M = (A + (x + 2 * L) * 2 ^ i * B) % M := by
  have e1 : (A + x * (B * 2 ^ i % M)) % M = (A + x * (B * 2 ^ i)) % M := by
    rw [Nat.add_mod, Nat.mul_mod, Nat.mod_mod, ← Nat.mul_mod, ← Nat.add_mod]
  rw [e1, Nat.mod_add_mod]
  congr 1
  rw [Nat.pow_succ, Nat.add_mul, Nat.add_mul, Nat.mul_comm B, ← Nat.mul_assoc, Nat.add_assoc]
  congr 2
  rw [Nat.mul_comm (2 ^ i) 2, ← Nat.mul_assoc, Nat.mul_comm L 2]
theorem muls_sem {val : Nat → Bool} {b : List Nat} : ∀ (l : List Nat) (g : Graph) (i : Nat) (acc : List Nat), acc.length = b.length → Con val (muls b.length b g l i acc).1 →
    (muls b.length b g l i acc).2.length = b.length ∧ wv val (muls b.length b g l i acc).2 = (wv val acc + wv val l * 2 ^ i * wv val b) % 2 ^ b.length
  | [], g, i, acc, h, k => by
    refine ⟨h, ?_⟩
    show wv val acc = (wv val acc + 0 * 2 ^ i * wv val b) % _
    rw [Nat.zero_mul, Nat.zero_mul, Nat.add_zero, Nat.mod_eq_of_lt (wv_lt' h)]
  | x :: l, g, i, acc, h, k => by
    let p := part g x (up i b)
    let s := adds p.1 0 acc p.2
    have k1 : Con val (muls b.length b s.1 l (i + 1) s.2.1).1 := k
    have ks : Con val s.1 := k1.pre (muls_pre _ _ _ _ _ _)
    have kp : Con val p.1 := ks.pre (adds_pre _ _ _ _)
    have hl : acc.length = p.2.length := by rw [part_out, up_len, h]
    have so : s.2.1.length = b.length := by rw [adds_out acc p.2 _ _ hl, h]
    have e1 : wv val p.2 = _ := part_sem (up i b) g kp
    have e2 : wv val s.2.1 = _ := add_sem hl ks
    obtain ⟨ih1, ih2⟩ := muls_sem (b := b) l s.1 (i + 1) s.2.1 so k1
    refine ⟨ih1, ?_⟩
    show wv val (muls b.length b s.1 l (i + 1) s.2.1).2 = _
    rw [ih2, e2, e1, up_sem k.zero, h, wv_cons]
    exact mul_step _ _ _ _ _ _
theorem mul_sem {val : Nat → Bool} {g : Graph} {a b : List Nat} (h : a.length = b.length) (k : Con val (muls a.length b g a 0 (noes a)).1) :
    (muls a.length b g a 0 (noes a)).2.length = a.length ∧ wv val (muls a.length b g a 0 (noes a)).2 = wv val a * wv val b % 2 ^ a.length := by
  rw [h] at k ⊢
  have hn : (noes a).length = b.length := by unfold noes; rw [List.length_map, h]
  obtain ⟨h1, h2⟩ := muls_sem a g 0 (noes a) hn k
  refine ⟨h1, ?_⟩
  rw [h2, wv_noes k.zero, Nat.zero_add, Nat.pow_zero, Nat.mul_one]
/-! ### quotients -/
theorem muxes_pre (c : Nat) (a b : List Nat) (g : Graph) : g <+: (muxes c g a b).1 := each2_pre (fun g x y => mux_pre g c x y) a b g
theorem muxes_out (c : Nat) (a b : List Nat) (g : Graph) (h : a.length = b.length) : (muxes c g a b).2.length = a.length := each2_len a b g h
theorem muxes_sem {val : Nat → Bool} {c : Nat} {a b : List Nat} {g : Graph} (h : a.length = b.length) (k : Con val (muxes c g a b).1) : wv val (muxes c g a b).2 = if lv val c = true then wv val a else wv val b := by
  have e := each2_sem (val := val) (f := fun g a b => mux g c a b) (op := fun x y => if lv val c = true then x else y) (fun g x y => mux_pre g c x y) (fun g x y k => mux_sem k) a b g h k
  show bn (bv val (each2 (fun g a b => mux g c a b) g a b).2) = _
  rw [e]
  have hb : (bv val a).length = (bv val b).length := by unfold bv; rw [List.length_map, List.length_map, h]
  unfold wv
  generalize bv val a = u at hb ⊢
  generalize bv val b = v at hb ⊢
  cases lv val c
  · rw [if_neg Bool.false_ne_true]
    congr 1
    induction u generalizing v with
    | nil => cases v with
      | nil => rfl
      | cons _ _ => cases hb
    | cons x r ih => cases v with
      | nil => cases hb
      | cons y s => exact congrArg (List.cons y) (ih s (Nat.succ.inj hb))
  · rw [if_pos rfl]
    congr 1
    induction u generalizing v with
    | nil => cases v with
      | nil => rfl
      | cons _ _ => cases hb
    | cons x r ih => cases v with
      | nil => cases hb
      | cons y s => exact congrArg (List.cons x) (ih s (Nat.succ.inj hb))
theorem divs_pre (b : List Nat) : ∀ (l : List Nat) (g : Graph) (q r : List Nat), g <+: (divs b g l q r).1
  | [], g, q, r => List.prefix_refl _
  | x :: l, g, q, r => (subs_pre g _ _).trans ((muxes_pre _ _ _ _).trans (divs_pre b l _ _ _))
/-- the value of bits, the highest first -/
def hi (val : Nat → Bool) : Nat → List Nat → Nat
  | p, [] => p
  | p, x :: l => hi val (2 * p + (lv val x).toNat) l
theorem hi_rev (val : Nat → Bool) : ∀ (l : List Nat) (p : Nat), hi val p l = p * 2 ^ l.length + wv val l.reverse
  | [], p => by show p = p * 1 + 0; omega
  | x :: l, p => by
    show hi val (2 * p + (lv val x).toNat) l = p * 2 ^ (l.length + 1) + wv val (x :: l).reverse
    rw [hi_rev val l, List.reverse_cons, wv_app, List.length_reverse, Nat.pow_succ, Nat.add_mul]
    show _ = p * (2 ^ l.length * 2) + (wv val l.reverse + 2 ^ l.length * ((lv val x).toNat + 2 * 0))
    rw [Nat.mul_zero, Nat.add_zero, Nat.mul_comm (lv val x).toNat, Nat.mul_comm 2 p, Nat.mul_assoc, Nat.mul_comm 2 (2 ^ l.length)]
    omega
theorem hi_of (val : Nat → Bool) (a : List Nat) : hi val 0 a.reverse = wv val a := by
  rw [hi_rev, List.reverse_reverse, Nat.zero_mul, Nat.zero_add]
/-- one turn -/
theorem div_turn {val : Nat → Bool} {b r : List Nat} {g : Graph} {x : Nat} (hr : r.length = b.length) (k : Con val (muxes (subs g (x :: r) (b ++ [0])).2.2 (subs g (x :: r) (b ++ [0])).1 (subs g (x :: r) (b ++ [0])).2.1 (x :: r)).1) :
    lv val (subs g (x :: r) (b ++ [0])).2.2 = decide (wv val b ≤ (lv val x).toNat + 2 * wv val r) ∧
    ((muxes (subs g (x :: r) (b ++ [0])).2.2 (subs g (x :: r) (b ++ [0])).1 (subs g (x :: r) (b ++ [0])).2.1 (x :: r)).2.take b.length).length = b.length ∧
    wv val ((muxes (subs g (x :: r) (b ++ [0])).2.2 (subs g (x :: r) (b ++ [0])).1 (subs g (x :: r) (b ++ [0])).2.1 (x :: r)).2.take b.length) =
      (if wv val b ≤ (lv val x).toNat + 2 * wv val r then (lv val x).toNat + 2 * wv val r - wv val b else (lv val x).toNat + 2 * wv val r) % 2 ^ b.length := by
  have hl : (x :: r).length = (b ++ [0]).length := by rw [List.length_cons, List.length_append, hr]; rfl
  have ks : Con val (subs g (x :: r) (b ++ [0])).1 := k.pre (muxes_pre _ _ _ _)
  have wb : wv val (b ++ [0]) = wv val b := by
    rw [wv_app, wv_cons, lv_zero k.zero]
    show wv val b + 2 ^ b.length * (0 + 2 * 0) = _
    omega
  have hc := subs_carry hl ks
  have he := subs_eq hl ks
  rw [wb, wv_cons] at hc
  rw [wb, wv_cons] at he
  have so := subs_out (g := g) hl
  have hm := muxes_sem (so) k
  refine ⟨hc, ?_, ?_⟩
  · rw [List.length_take, muxes_out _ _ _ _ so, so, List.length_cons, hr]
    omega
  · rw [wv_take, hm, hc, wv_cons]
    congr 1
    by_cases hq : wv val b ≤ (lv val x).toNat + 2 * wv val r
    · rw [if_pos (decide_eq_true hq), if_pos hq]
      rw [hc, decide_eq_true hq] at he
      have : 2 ^ (x :: r).length * (true).toNat = 2 ^ (x :: r).length := Nat.mul_one _
      omega
    · rw [if_neg (by rw [decide_eq_false hq]; exact Bool.false_ne_true), if_neg hq]
theorem div_mul (p x B : Nat) (hB : 0 < B) (hx : x ≤ 1) : (2 * p + x) / B = 2 * (p / B) + (if B ≤ x + 2 * (p % B) then 1 else 0) ∧ (2 * p + x) % B = if B ≤ x + 2 * (p % B) then x + 2 * (p % B) - B else x + 2 * (p % B) := by
  have hp := Nat.div_add_mod p B
  have hlt := Nat.mod_lt p hB
  generalize p / B = d at hp
  generalize p % B = m at hp hlt
  have e : 2 * p + x = B * (2 * d) + (x + 2 * m) := by
    rw [← hp, Nat.mul_add, Nat.mul_left_comm]
    omega
  rw [e, Nat.mul_add_div hB, Nat.mul_add_mod]
  by_cases h : B ≤ x + 2 * m
  · rw [if_pos h, if_pos h]
    have h1 : (x + 2 * m) / B = 1 := by
      rw [Nat.div_eq_iff hB]
      omega
    have h2 : (x + 2 * m) % B = x + 2 * m - B := by
      rw [Nat.mod_eq_sub_mod h, Nat.mod_eq_of_lt (by omega)]
    exact ⟨by rw [h1], h2⟩
  · rw [if_neg h, if_neg h]
    exact ⟨by rw [Nat.div_eq_of_lt (by omega)], Nat.mod_eq_of_lt (by omega)⟩
theorem divs_sem {val : Nat → Bool} {b : List Nat} (hB : 0 < wv val b) : ∀ (l : List Nat) (g : Graph) (q r : List Nat) (p : Nat), r.length = b.length → Con val (divs b g l q r).1 → wv val r = p % wv val b → wv val q = p / wv val b % 2 ^ q.length →
    (divs b g l q r).2.2.length = b.length ∧ wv val (divs b g l q r).2.2 = hi val p l % wv val b ∧ (divs b g l q r).2.1.length = l.length + q.length ∧ wv val (divs b g l q r).2.1 = hi val p l / wv val b % 2 ^ (l.length + q.length)
  | [], g, q, r, p, hr, k, er, eq => by
    refine ⟨hr, er, (Nat.zero_add _).symm, ?_⟩
    show wv val q = p / wv val b % 2 ^ (0 + q.length)
    rw [Nat.zero_add]
    exact eq
  | x :: l, g, q, r, p, hr, k, er, eq => by
    let s := subs g (x :: r) (b ++ [0])
    let m := muxes s.2.2 s.1 s.2.1 (x :: r)
    have k1 : Con val (divs b m.1 l (s.2.2 :: q) (m.2.take b.length)).1 := k
    have km : Con val m.1 := k1.pre (divs_pre _ _ _ _ _)
    obtain ⟨t1, t2, t3⟩ := div_turn hr km
    obtain ⟨d1, d2⟩ := div_mul p (lv val x).toNat (wv val b) hB (tn_lt _)
    have hb := wv_lt val b
    have hm := Nat.mod_lt p hB
    have e1 : wv val (m.2.take b.length) = (2 * p + (lv val x).toNat) % wv val b := by
      rw [d2]
      rw [er] at t3
      rw [t3]
      apply Nat.mod_eq_of_lt
      have := tn_lt (lv val x)
      split <;> omega
    have e2 : wv val (s.2.2 :: q) = (2 * p + (lv val x).toNat) / wv val b % 2 ^ (s.2.2 :: q).length := by
      rw [wv_cons, t1, er, d1, List.length_cons, Nat.pow_succ, Nat.mul_comm (2 ^ q.length) 2, Nat.mod_mul, eq]
      by_cases hq : wv val b ≤ (lv val x).toNat + 2 * (p % wv val b)
      · rw [decide_eq_true hq, if_pos hq, show (2 * (p / wv val b) + 1) % 2 = 1 by omega, show (2 * (p / wv val b) + 1) / 2 = p / wv val b by omega]
        rfl
      · rw [decide_eq_false hq, if_neg hq, show (2 * (p / wv val b) + 0) % 2 = 0 by omega, show (2 * (p / wv val b) + 0) / 2 = p / wv val b by omega]
        rfl
    obtain ⟨i1, i2, i3, i4⟩ := divs_sem hB l m.1 (s.2.2 :: q) (m.2.take b.length) (2 * p + (lv val x).toNat) t2 k1 e1 e2
    have lq : l.length + (s.2.2 :: q).length = (x :: l).length + q.length := by rw [List.length_cons, List.length_cons]; omega
    rw [lq] at i3 i4
    exact ⟨i1, i2, i3, i4⟩
/-- by 0: all 1s, and what was divided -/
theorem divs_zero {val : Nat → Bool} {b : List Nat} (hB : wv val b = 0) : ∀ (l : List Nat) (g : Graph) (q r : List Nat) (p : Nat), r.length = b.length → Con val (divs b g l q r).1 → wv val r = p % 2 ^ b.length → wv val q + 1 = 2 ^ q.length →
    (divs b g l q r).2.2.length = b.length ∧ wv val (divs b g l q r).2.2 = hi val p l % 2 ^ b.length ∧ (divs b g l q r).2.1.length = l.length + q.length ∧ wv val (divs b g l q r).2.1 + 1 = 2 ^ (l.length + q.length)
  | [], g, q, r, p, hr, k, er, eq => by
    refine ⟨hr, er, (Nat.zero_add _).symm, ?_⟩
    show wv val q + 1 = 2 ^ (0 + q.length)
    rw [Nat.zero_add]
    exact eq
  | x :: l, g, q, r, p, hr, k, er, eq => by
    let s := subs g (x :: r) (b ++ [0])
    let m := muxes s.2.2 s.1 s.2.1 (x :: r)
    have k1 : Con val (divs b m.1 l (s.2.2 :: q) (m.2.take b.length)).1 := k
    have km : Con val m.1 := k1.pre (divs_pre _ _ _ _ _)
    obtain ⟨t1, t2, t3⟩ := div_turn hr km
    rw [hB] at t1 t3
    have t1' : lv val s.2.2 = true := t1.trans (decide_eq_true (Nat.zero_le _))
    rw [if_pos (Nat.zero_le _), Nat.sub_zero, er] at t3
    have e1 : wv val (m.2.take b.length) = (2 * p + (lv val x).toNat) % 2 ^ b.length := by
      rw [t3, Nat.add_comm, Nat.add_mod, Nat.mul_mod, Nat.mod_mod, ← Nat.mul_mod, ← Nat.add_mod]
    have e2 : wv val (s.2.2 :: q) + 1 = 2 ^ (s.2.2 :: q).length := by
      rw [wv_cons, t1', List.length_cons, Nat.pow_succ]
      show 1 + 2 * wv val q + 1 = _
      omega
    obtain ⟨i1, i2, i3, i4⟩ := divs_zero hB l m.1 (s.2.2 :: q) (m.2.take b.length) (2 * p + (lv val x).toNat) t2 k1 e1 e2
    have lq : l.length + (s.2.2 :: q).length = (x :: l).length + q.length := by rw [List.length_cons, List.length_cons]; omega
    rw [lq] at i3 i4
    exact ⟨i1, i2, i3, i4⟩
theorem div_sem {val : Nat → Bool} {g : Graph} {a b : List Nat} (h : a.length = b.length) (k : Con val (divs b g a.reverse [] (noes b)).1) :
    ((divs b g a.reverse [] (noes b)).2.1.length = a.length ∧ wv val (divs b g a.reverse [] (noes b)).2.1 = if wv val b = 0 then 2 ^ a.length - 1 else wv val a / wv val b) ∧
    ((divs b g a.reverse [] (noes b)).2.2.length = a.length ∧ wv val (divs b g a.reverse [] (noes b)).2.2 = if wv val b = 0 then wv val a else wv val a % wv val b) := by
  have hn : (noes b).length = b.length := by unfold noes; rw [List.length_map]
  have hz := wv_noes k.zero b
  have ha := wv_lt val a
  by_cases hB : wv val b = 0
  · obtain ⟨i1, i2, i3, i4⟩ := divs_zero hB a.reverse g [] (noes b) 0 hn k (by rw [hz, Nat.zero_mod]) rfl
    rw [hi_of] at i2
    rw [List.length_reverse] at i3 i4
    have i3' : (divs b g a.reverse [] (noes b)).2.1.length = a.length := i3
    have i4' : wv val (divs b g a.reverse [] (noes b)).2.1 + 1 = 2 ^ a.length := i4
    rw [if_pos hB, if_pos hB]
    refine ⟨⟨i3', by omega⟩, by rw [i1, h], ?_⟩
    rw [i2, ← h, Nat.mod_eq_of_lt ha]
  · obtain ⟨i1, i2, i3, i4⟩ := divs_sem (b := b) (Nat.pos_of_ne_zero hB) a.reverse g [] (noes b) 0 hn k (by rw [hz, Nat.zero_mod]) (by rw [Nat.zero_div, Nat.zero_mod]; rfl)
    rw [hi_of] at i2 i4
    rw [List.length_reverse, List.length_nil, Nat.add_zero] at i3 i4
    rw [if_neg hB, if_neg hB]
    refine ⟨⟨i3, ?_⟩, by rw [i1, h], i2⟩
    rw [i4, Nat.mod_eq_of_lt (Nat.lt_of_le_of_lt (Nat.div_le_self _ _) ha)]
end BS

set_option Elab.async false
set_option linter.all false
namespace BS
open Sm03
/-! ### moves -/
theorem moves_pre (f : Nat → List Nat → List Nat) : ∀ (r : List Nat) (g : Graph) (n : Nat) (l : List Nat), g <+: (moves f g r n l).1
  | [], g, n, l => List.prefix_refl _
  | x :: r, g, n, l => (muxes_pre _ _ _ _).trans (moves_pre f r _ _ _)
theorem moves_sem {val : Nat → Bool} {f : Nat → List Nat → List Nat} {S : Nat → Nat → Nat} {w : Nat} (fl : ∀ n l, (f n l).length = l.length) (fs : ∀ n l, l.length = w → wv val (f n l) = S n (wv val l)) (S0 : ∀ v, v < 2 ^ w → S 0 v = v)
    (SS : ∀ m n v, v < 2 ^ w → S m (S n v) = S (n + m) v) : ∀ (r : List Nat) (g : Graph) (n : Nat) (l : List Nat), l.length = w → Con val (moves f g r n l).1 →
      (moves f g r n l).2.length = w ∧ wv val (moves f g r n l).2 = S (wv val r * n) (wv val l)
  | [], g, n, l, h, k => by
    refine ⟨h, ?_⟩
    show wv val l = S (0 * n) (wv val l)
    rw [Nat.zero_mul, S0 _ (wv_lt' h)]
  | x :: r, g, n, l, h, k => by
    let m := muxes x g (f n l) l
    have k1 : Con val (moves f m.1 r (2 * n) m.2).1 := k
    have km : Con val m.1 := k1.pre (moves_pre _ _ _ _ _)
    have ml : m.2.length = w := by rw [muxes_out _ _ _ _ (fl n l), fl, h]
    have me : wv val m.2 = S ((lv val x).toNat * n) (wv val l) := by
      have := muxes_sem (fl n l) km
      rw [this]
      cases lv val x
      · rw [if_neg Bool.false_ne_true]
        show _ = S (0 * n) _
        rw [Nat.zero_mul, S0 _ (wv_lt' h)]
      · rw [if_pos rfl, fs n l h]
        show _ = S (1 * n) _
        rw [Nat.one_mul]
    obtain ⟨i1, i2⟩ := moves_sem fl fs S0 SS r m.1 (2 * n) m.2 ml k1
    refine ⟨i1, ?_⟩
    show wv val (moves f m.1 r (2 * n) m.2).2 = _
    rw [i2, me, SS _ _ _ (wv_lt' h), wv_cons, Nat.add_mul, Nat.mul_comm 2 n, ← Nat.mul_assoc, Nat.mul_comm 2 (wv val r), Nat.mul_assoc, Nat.mul_assoc, Nat.mul_comm n 2]
theorem down_len (z m : Nat) (ws : List Nat) : (down z m ws).length = ws.length := by
  unfold down
  rw [List.length_append, List.length_drop, List.length_replicate]
  omega
theorem wv_rep {val : Nat → Bool} {z : Nat} (hz : lv val z = false) : ∀ n : Nat, wv val (List.replicate n z) = 0
  | 0 => rfl
  | n + 1 => by
    rw [List.replicate_succ, wv_cons, wv_rep hz n, hz]
    rfl
theorem down_sem {val : Nat → Bool} {z : Nat} (hz : lv val z = false) (n : Nat) (l : List Nat) : wv val (down z n l) = wv val l / 2 ^ n := by
  unfold down
  rw [wv_app, wv_rep hz, Nat.mul_zero, Nat.add_zero, wv_drop]
theorem down_not (z n : Nat) (l : List Nat) : (down z n l).map not_ = down (not_ z) n (l.map not_) := by
  unfold down
  rw [List.map_append, List.map_drop, List.map_replicate, List.length_map]
theorem shl_sem {val : Nat → Bool} {g : Graph} {a b : List Nat} (k : Con val (moves up g b 1 a).1) :
    (moves up g b 1 a).2.length = a.length ∧ wv val (moves up g b 1 a).2 = if a.length ≤ wv val b then 0 else wv val a * 2 ^ wv val b % 2 ^ a.length := by
  obtain ⟨h1, h2⟩ := moves_sem (val := val) (f := up) (S := fun n v => v * 2 ^ n % 2 ^ a.length) (w := a.length) up_len (fun n l h => by rw [up_sem k.zero, h]) (fun v hv => by rw [Nat.pow_zero, Nat.mul_one, Nat.mod_eq_of_lt hv])
    (fun m n v _ => by
      show v * 2 ^ n % 2 ^ a.length * 2 ^ m % 2 ^ a.length = v * 2 ^ (n + m) % 2 ^ a.length
      rw [Nat.mod_mul_mod, Nat.mul_assoc, ← Nat.pow_add]) b g 1 a rfl k
  refine ⟨h1, ?_⟩
  rw [h2, Nat.mul_one]
  split
  · rename_i hb
    obtain ⟨c, hc⟩ := Nat.le.dest hb
    rw [← hc, Nat.pow_add, ← Nat.mul_assoc, Nat.mul_right_comm, Nat.mul_mod_left]
  · rfl
theorem div_zero_of {v w b : Nat} (hv : v < 2 ^ w) (hb : w ≤ b) : v / 2 ^ b = 0 := Nat.div_eq_of_lt (Nat.lt_of_lt_of_le hv (Nat.pow_le_pow_right (by decide) hb))
theorem shr_sem {val : Nat → Bool} {g : Graph} {a b : List Nat} (k : Con val (moves (down 0) g b 1 a).1) :
    (moves (down 0) g b 1 a).2.length = a.length ∧ wv val (moves (down 0) g b 1 a).2 = if a.length ≤ wv val b then 0 else wv val a / 2 ^ wv val b := by
  obtain ⟨h1, h2⟩ := moves_sem (val := val) (f := down 0) (S := fun n v => v / 2 ^ n) (w := a.length) (down_len 0) (fun n l h => down_sem (lv_zero k.zero) n l) (fun v hv => by rw [Nat.pow_zero, Nat.div_one])
    (fun m n v _ => by
      show v / 2 ^ n / 2 ^ m = v / 2 ^ (n + m)
      rw [Nat.div_div_eq_div_mul, ← Nat.pow_add]) b g 1 a rfl k
  refine ⟨h1, ?_⟩
  rw [h2, Nat.mul_one]
  split
  · rename_i hb
    exact div_zero_of (wv_lt val a) hb
  · rfl
theorem snoc_of {ws : List Nat} (h : 1 ≤ ws.length) : ∃ us z, ws = us ++ [z] :=
  ⟨ws.dropLast, ws.getLast (by intro e; rw [e] at h; cases h), (List.dropLast_concat_getLast _).symm⟩
theorem last_snoc (us : List Nat) (z : Nat) : last (us ++ [z]) = z := by
  unfold last
  rw [List.getLastD_eq_getLast?, List.getLast?_append]
  rfl
theorem last_sem {val : Nat → Bool} {l : List Nat} (h : 1 ≤ l.length) : lv val (last l) = decide (2 ^ l.length ≤ 2 * wv val l) := by
  obtain ⟨us, z, rfl⟩ := snoc_of h
  have h1 := wv_lt val us
  rw [last_snoc, wv_app, List.length_append]
  show lv val z = decide (2 ^ (us.length + 1) ≤ 2 * (wv val us + 2 ^ us.length * ((lv val z).toNat + 2 * 0)))
  rw [Nat.mul_zero, Nat.add_zero, Nat.pow_succ]
  cases lv val z
  · show _ = decide (2 ^ us.length * 2 ≤ 2 * (wv val us + 2 ^ us.length * 0))
    exact (decide_eq_false (by omega)).symm
  · show _ = decide (2 ^ us.length * 2 ≤ 2 * (wv val us + 2 ^ us.length * 1))
    exact (decide_eq_true (by omega)).symm
/-- moved down with its sign -/
def sarN (w n v : Nat) : Nat := if 2 * v < 2 ^ w then v / 2 ^ n else 2 ^ w - 1 - (2 ^ w - 1 - v) / 2 ^ n
theorem sarF_sem {val : Nat → Bool} {w : Nat} (hw : 1 ≤ w) (n : Nat) (l : List Nat) (h : l.length = w) : wv val (down (last l) n l) = sarN w n (wv val l) := by
  have hs := last_sem (val := val) (l := l) (by omega)
  have hl := wv_lt val l
  rw [h] at hs hl
  unfold sarN
  by_cases hh : 2 * wv val l < 2 ^ w
  · rw [if_pos hh, down_sem (by rw [hs]; exact decide_eq_false (by omega))]
  · rw [if_neg hh]
    have h1 := wv_not (val := val) (down (last l) n l)
    rw [down_not, down_len, down_sem (by rw [lv_not, hs, decide_eq_true (by omega)]; rfl)] at h1
    have h2 := wv_not (val := val) l
    rw [h] at h1 h2
    rw [show wv val (l.map not_) = 2 ^ w - 1 - wv val l by omega] at h1
    omega
theorem sar_lt {w n v : Nat} (hv : v < 2 ^ w) : 2 * v < 2 ^ w → 2 * (v / 2 ^ n) < 2 ^ w := fun h => Nat.lt_of_le_of_lt (Nat.mul_le_mul_left 2 (Nat.div_le_self _ _)) h
theorem sarN_add {w m n v : Nat} (hv : v < 2 ^ w) : sarN w m (sarN w n v) = sarN w (n + m) v := by
  unfold sarN
  by_cases h : 2 * v < 2 ^ w
  · rw [if_pos h, if_pos h, if_pos (sar_lt hv h), Nat.div_div_eq_div_mul, ← Nat.pow_add]
  · rw [if_neg h, if_neg h]
    have hd : (2 ^ w - 1 - v) / 2 ^ n ≤ 2 ^ w - 1 - v := Nat.div_le_self _ _
    rw [Nat.pow_add, ← Nat.div_div_eq_div_mul]
    generalize (2 ^ w - 1 - v) / 2 ^ n = d at hd ⊢
    rw [if_neg (by omega), show 2 ^ w - 1 - (2 ^ w - 1 - d) = d by omega]
theorem sarN_zero {w v : Nat} (hv : v < 2 ^ w) : sarN w 0 v = v := by
  unfold sarN
  rw [Nat.pow_zero, Nat.div_one, Nat.div_one]
  split <;> omega
theorem sar_sem {val : Nat → Bool} {g : Graph} {a b : List Nat} (h1 : 1 ≤ a.length) (k : Con val (moves (fun n l => down (last l) n l) g b 1 a).1) :
    (moves (fun n l => down (last l) n l) g b 1 a).2.length = a.length ∧ wv val (moves (fun n l => down (last l) n l) g b 1 a).2 = sarN a.length (wv val b) (wv val a) := by
  obtain ⟨h1, h2⟩ := moves_sem (val := val) (f := fun n l => down (last l) n l) (S := fun n v => sarN a.length n v) (w := a.length) (fun n l => down_len _ _ _) (fun n l h => sarF_sem h1 n l h) (fun v hv => sarN_zero hv)
    (fun m n v hv => sarN_add hv) b g 1 a rfl k
  refine ⟨h1, ?_⟩
  rw [h2, Nat.mul_one]
/-! ### comparisons -/
theorem alls_pre : ∀ (l : List Nat) (g : Graph) (x : Nat), g <+: (alls g x l).1
  | [], g, x => List.prefix_refl _
  | a :: l, g, x => (and_pre _ _ _).trans (alls_pre l _ _)
theorem alls_sem {val : Nat → Bool} : ∀ (l : List Nat) (g : Graph) (x : Nat), Con val (alls g x l).1 → lv val (alls g x l).2 = (lv val x && (bv val l).all id)
  | [], g, x, k => by show lv val x = (lv val x && true); rw [Bool.and_true]
  | a :: l, g, x, k => by
    have k1 : Con val (alls (and_ g x a).1 (and_ g x a).2 l).1 := k
    have k0 : Con val (and_ g x a).1 := k1.pre (alls_pre _ _ _)
    show lv val (alls (and_ g x a).1 (and_ g x a).2 l).2 = (lv val x && (lv val a && (bv val l).all id))
    rw [alls_sem l _ _ k1, and_sem k0, Bool.and_assoc]
theorem bv_not (val : Nat → Bool) (l : List Nat) : bv val (l.map not_) = (bv val l).map not := by
  unfold bv
  rw [List.map_map, List.map_map]
  congr 1
  funext x
  exact lv_not x
theorem all_eq : ∀ (a b : List Bool), a.length = b.length → ((List.zipWith (fun x y => x != y) a b).map not).all id = decide (a = b)
  | [], [], _ => rfl
  | [], _ :: _, h => by cases h
  | _ :: _, [], h => by cases h
  | x :: r, y :: s, h => by
    show ((!(x != y)) && ((List.zipWith (fun x y => x != y) r s).map not).all id) = _
    rw [all_eq r s (Nat.succ.inj h)]
    by_cases hr : r = s
    · subst hr
      cases x <;> cases y <;> simp
    · rw [decide_eq_false hr, Bool.and_false]
      exact (decide_eq_false (fun z => hr (List.cons.inj z).2)).symm
theorem bv_len (val : Nat → Bool) (a : List Nat) : (bv val a).length = a.length := List.length_map ..
theorem sames_sem {val : Nat → Bool} {g : Graph} {a b : List Nat} (h : a.length = b.length) (k : Con val (sames g a b).1) : lv val (sames g a b).2 = decide (wv val a = wv val b) := by
  have k0 : Con val (each2 xor_ g a b).1 := k.pre (alls_pre _ _ _)
  have hb : (bv val a).length = (bv val b).length := by rw [bv_len, bv_len, h]
  show lv val (alls (each2 xor_ g a b).1 1 ((each2 xor_ g a b).2.map not_)).2 = _
  rw [alls_sem _ _ _ k, lv_one k.zero, Bool.true_and, bv_not, each2_sem (op := fun x y => x != y) xor_pre (fun g x y k => xor_sem k) a b g h k0, all_eq _ _ hb]
  by_cases e : bv val a = bv val b
  · rw [decide_eq_true e]
    exact (decide_eq_true (congrArg bn e)).symm
  · rw [decide_eq_false e]
    exact (decide_eq_false (fun z => e (bn_inj hb z))).symm
theorem wv_one (val : Nat → Bool) (x : Nat) : wv val [x] = (lv val x).toNat := by
  show (lv val x).toNat + 2 * 0 = _
  omega
theorem flag_dec (p : Bool) : flag p = p.toNat := by cases p <;> rfl
theorem ult_sem {val : Nat → Bool} {g : Graph} {a b : List Nat} (h : a.length = b.length) (k : Con val (subs g a b).1) : wv val [not_ (subs g a b).2.2] = flag (decide (wv val a < wv val b)) := by
  rw [wv_one, lv_not, subs_carry h k, flag_dec]
  congr 1
  by_cases e : wv val a < wv val b
  · rw [decide_eq_true e, decide_eq_false (by omega)]; rfl
  · rw [decide_eq_false e, decide_eq_true (by omega)]; rfl
theorem turned_len {l : List Nat} (h : 1 ≤ l.length) : (turned l).length = l.length := by
  unfold turned
  rw [List.length_append, List.length_dropLast]
  show l.length - 1 + 1 = _
  omega
theorem turned_sem {val : Nat → Bool} {l : List Nat} (h : 1 ≤ l.length) : 2 * (wv val (turned l) : Int) = 2 * signed l.length (wv val l) + (2 ^ l.length : Nat) := by
  obtain ⟨us, z, rfl⟩ := snoc_of h
  have h1 := wv_lt val us
  unfold turned signed
  rw [last_snoc, List.dropLast_concat, wv_app, wv_app, wv_one, wv_one, lv_not, List.length_append]
  show 2 * ((wv val us + 2 ^ us.length * (!lv val z).toNat : Nat) : Int) = 2 * (if 2 * (wv val us + 2 ^ us.length * (lv val z).toNat) < 2 ^ (us.length + 1) then (((wv val us + 2 ^ us.length * (lv val z).toNat : Nat)) : Int) else ((wv val us + 2 ^ us.length * (lv val z).toNat : Nat) : Int) - (2 ^ (us.length + 1) : Nat)) + (2 ^ (us.length + 1) : Nat)
  rw [Nat.pow_succ]
  generalize 2 ^ us.length = M at *
  cases lv val z
  · rw [show M * (!false).toNat = M from Nat.mul_one _, show M * (false).toNat = 0 from rfl, if_pos (by omega)]
    omega
  · rw [show M * (!true).toNat = 0 from rfl, show M * (true).toNat = M from Nat.mul_one _, if_neg (by omega)]
    omega
theorem slt_sem {val : Nat → Bool} {g : Graph} {a b : List Nat} (h : a.length = b.length) (h1 : 1 ≤ a.length) (k : Con val (subs g (turned a) (turned b)).1) :
    wv val [not_ (subs g (turned a) (turned b)).2.2] = flag (decide (signed a.length (wv val a) < signed a.length (wv val b))) := by
  rw [ult_sem (by rw [turned_len h1, turned_len (by omega), h]) k]
  congr 1
  have ta := turned_sem (val := val) h1
  have tb := turned_sem (val := val) (l := b) (by omega)
  rw [← h] at tb
  by_cases e : signed a.length (wv val a) < signed a.length (wv val b)
  · rw [decide_eq_true e, decide_eq_true (by omega)]
  · rw [decide_eq_false e, decide_eq_false (by omega)]
/-! ### a term of two -/
def wide1 : Op → Bool
  | .eq => true
  | .ult => true
  | .slt => true
  | _ => false
theorem two_pre (g : Graph) (a b : List Nat) (o : Op) : g <+: (twoOf g a b o).1 := by
  cases o
  · exact each2_pre and_pre _ _ _
  · exact each2_pre or_pre _ _ _
  · exact each2_pre xor_pre _ _ _
  · exact adds_pre _ _ _ _
  · exact subs_pre _ _ _
  · exact muls_pre _ _ _ _ _ _
  · exact divs_pre _ _ _ _ _
  · exact divs_pre _ _ _ _ _
  · exact moves_pre _ _ _ _ _
  · exact moves_pre _ _ _ _ _
  · exact moves_pre _ _ _ _ _
  · exact (each2_pre xor_pre _ _ _).trans (alls_pre _ _ _)
  · exact subs_pre _ _ _
  · exact subs_pre _ _ _
theorem two_sem {val : Nat → Bool} {g : Graph} {a b : List Nat} (o : Op) (h : a.length = b.length) (h1 : 1 ≤ a.length) (k : Con val (twoOf g a b o).1) :
    (twoOf g a b o).2.length = (if wide1 o = true then 1 else a.length) ∧ wv val (twoOf g a b o).2 = meant a.length (wv val a) (wv val b) o := by
  have hb : (bv val a).length = (bv val b).length := by rw [bv_len, bv_len, h]
  cases o
  · refine ⟨each2_len _ _ _ h, ?_⟩
    show bn (bv val (each2 and_ g a b).2) = _
    rw [each2_sem (op := fun x y => x && y) and_pre (fun g x y k => and_sem k) a b g h k, zip_and _ _ hb, bv_len]
    rfl
  · refine ⟨each2_len _ _ _ h, ?_⟩
    show bn (bv val (each2 or_ g a b).2) = _
    rw [each2_sem (op := fun x y => x || y) or_pre (fun g x y k => or_sem k) a b g h k]
    have e := zip_or _ _ hb
    rw [zip_and _ _ hb, bv_len] at e
    show _ = wv val a + wv val b - andBits a.length (wv val a) (wv val b)
    unfold wv
    omega
  · refine ⟨each2_len _ _ _ h, ?_⟩
    show bn (bv val (each2 xor_ g a b).2) = _
    rw [each2_sem (op := fun x y => x != y) xor_pre (fun g x y k => xor_sem k) a b g h k, zip_xor _ _ hb, bv_len]
    rfl
  · exact ⟨adds_out _ _ _ _ h, add_sem h k⟩
  · exact ⟨subs_out h, sub_sem h k⟩
  · exact mul_sem h k
  · exact (div_sem h k).1
  · exact (div_sem h k).2
  · exact shl_sem k
  · exact shr_sem k
  · obtain ⟨s1, s2⟩ := sar_sem h1 k
    refine ⟨s1, s2.trans ?_⟩
    unfold sarN
    show _ = if 2 * wv val a < 2 ^ a.length then (if a.length ≤ wv val b then 0 else wv val a / 2 ^ wv val b) else 2 ^ a.length - 1 - (if a.length ≤ wv val b then 0 else (2 ^ a.length - 1 - wv val a) / 2 ^ wv val b)
    have hv := wv_lt val a
    by_cases hb : a.length ≤ wv val b
    · rw [if_pos hb, if_pos hb, div_zero_of hv hb, div_zero_of (v := 2 ^ a.length - 1 - wv val a) (by omega) hb]
    · rw [if_neg hb, if_neg hb]
  · refine ⟨rfl, ?_⟩
    show wv val [(sames g a b).2] = flag (wv val a == wv val b)
    rw [wv_one, sames_sem h k, flag_dec]
    rfl
  · exact ⟨rfl, ult_sem h k⟩
  · exact ⟨rfl, slt_sem h h1 k⟩
end BS

set_option Elab.async false
set_option linter.all false
namespace BS
open Sm03
/-! ### how long words are; a term made -/
theorem muls_out (w : Nat) (b : List Nat) (hb : b.length = w) : ∀ (l : List Nat) (g : Graph) (i : Nat) (acc : List Nat), acc.length = w → (muls w b g l i acc).2.length = w
  | [], g, i, acc, h => h
  | x :: l, g, i, acc, h => by
    refine muls_out w b hb l _ _ _ ?_
    rw [adds_out, h]
    rw [part_out, List.length_take, List.length_append, List.length_replicate]
    omega
theorem divs_out (b : List Nat) : ∀ (l : List Nat) (g : Graph) (q r : List Nat), r.length = b.length → (divs b g l q r).2.1.length = l.length + q.length ∧ (divs b g l q r).2.2.length = b.length
  | [], g, q, r, h => ⟨(Nat.zero_add _).symm, h⟩
  | x :: l, g, q, r, h => by
    have hl : (x :: r).length = (b ++ [0]).length := by rw [List.length_cons, List.length_append, h]; rfl
    have so := subs_out (g := g) hl
    have ml : ((muxes (subs g (x :: r) (b ++ [0])).2.2 (subs g (x :: r) (b ++ [0])).1 (subs g (x :: r) (b ++ [0])).2.1 (x :: r)).2.take b.length).length = b.length := by
      rw [List.length_take, muxes_out _ _ _ _ so, so, List.length_cons, h]
      omega
    obtain ⟨i1, i2⟩ := divs_out b l _ ((subs g (x :: r) (b ++ [0])).2.2 :: q) _ ml
    refine ⟨i1.trans ?_, i2⟩
    rw [List.length_cons, List.length_cons]
    omega
theorem moves_out (f : Nat → List Nat → List Nat) (fl : ∀ n l, (f n l).length = l.length) : ∀ (r : List Nat) (g : Graph) (n : Nat) (l : List Nat), (moves f g r n l).2.length = l.length
  | [], g, n, l => rfl
  | x :: r, g, n, l => (moves_out f fl r _ _ _).trans (by rw [muxes_out _ _ _ _ (fl n l), fl])
theorem two_len (g : Graph) (a b : List Nat) (o : Op) (h : a.length = b.length) : (twoOf g a b o).2.length = if wide1 o = true then 1 else a.length := by
  have hn : (noes a).length = a.length := by unfold noes; rw [List.length_map]
  have hnb : (noes b).length = b.length := by unfold noes; rw [List.length_map]
  have dv := divs_out b a.reverse g [] (noes b) hnb
  cases o
  · exact each2_len _ _ _ h
  · exact each2_len _ _ _ h
  · exact each2_len _ _ _ h
  · exact adds_out _ _ _ _ h
  · exact subs_out h
  · exact muls_out _ _ h.symm _ _ _ _ hn
  · exact dv.1.trans (by rw [List.length_reverse]; rfl)
  · exact dv.2.trans h.symm
  · exact moves_out _ up_len _ _ _ _
  · exact moves_out _ (down_len 0) _ _ _ _
  · exact moves_out _ (fun n l => down_len _ _ _) _ _ _ _
  · rfl
  · rfl
  · rfl
theorem made_pre (g : Graph) (es : List Entry) (t : Term) : g <+: (made g es t).1 := by
  cases t
  · exact List.prefix_append _ _
  · exact List.prefix_refl _
  · exact List.prefix_refl _
  · exact subs_pre _ _ _
  · exact two_pre _ _ _ _
  · exact List.prefix_refl _
  · exact List.prefix_refl _
  · exact List.prefix_refl _
  · exact muxes_pre _ _ _ _
theorem bitsOf_len : ∀ w v : Nat, (bitsOf w v).length = w
  | 0, _ => rfl
  | w + 1, v => congrArg Nat.succ (bitsOf_len w (v / 2))
/-- a term's width, from those that it names -/
theorem made_len {g : Graph} {es : List Entry} {t : Term} (hw : ∀ e ∈ es, 1 ≤ e.word.length ∧ e.word.length ≤ 8) (h : wrong es t = 0) : 1 ≤ (made g es t).2.length ∧ (made g es t).2.length ≤ 8 ∧ ∀ w, t = .input w → (made g es t).2.length = w := by
  have wd : ∀ {i : Nat}, there es i = true → 1 ≤ (wordOf es i).length ∧ (wordOf es i).length ≤ 8 := fun {i} hi => by
    have hl : i < es.length := of_decide_eq_true hi
    unfold wordOf
    rw [List.getElem?_eq_getElem hl]
    exact hw _ (List.getElem_mem hl)
  have tr : ∀ {i : Nat}, ¬ there es i = false → there es i = true := fun {i} h => by cases q : there es i with
    | true => rfl
    | false => exact (h q).elim
  cases t with
  | input w =>
    have e : (made g es (.input w)).2.length = w := by
      show ((List.range w).map _).length = w
      rw [List.length_map, List.length_range]
    unfold wrong at h
    dsimp only at h
    split at h
    · cases h
    · refine ⟨by omega, by omega, fun w' q => ?_⟩
      injection q with q
      omega
  | const w v =>
    have e : (made g es (.const w v)).2.length = w := bitsOf_len w v
    unfold wrong at h
    dsimp only at h
    split at h
    · cases h
    · exact ⟨by omega, by omega, fun w' q => by cases q⟩
  | not a =>
    have e : (made g es (.not a)).2.length = (wordOf es a).length := List.length_map ..
    unfold wrong at h
    dsimp only at h
    split at h
    · rename_i ha
      exact ⟨by rw [e]; exact (wd ha).1, by rw [e]; exact (wd ha).2, fun w' q => by cases q⟩
    · cases h
  | neg a =>
    have e : (made g es (.neg a)).2.length = (wordOf es a).length := by
      show (subs g (noes (wordOf es a)) (wordOf es a)).2.1.length = _
      have hn : (noes (wordOf es a)).length = (wordOf es a).length := by unfold noes; rw [List.length_map]
      rw [subs_out hn, hn]
    unfold wrong at h
    dsimp only at h
    split at h
    · rename_i ha
      exact ⟨by rw [e]; exact (wd ha).1, by rw [e]; exact (wd ha).2, fun w' q => by cases q⟩
    · cases h
  | two o a b =>
    unfold wrong at h
    dsimp only at h
    by_cases c : there es a = false ∨ there es b = false
    · rw [if_pos c] at h; cases h
    · rw [if_neg c] at h
      split at h
      · rename_i he
        have e : (made g es (.two o a b)).2.length = if wide1 o = true then 1 else (wordOf es a).length := two_len g _ _ o he
        have ha := wd (tr fun z => c (.inl z))
        rw [e]
        refine ⟨?_, ?_, fun w' q => by cases q⟩ <;> split <;> omega
      · cases h
  | join a b =>
    unfold wrong at h
    dsimp only at h
    by_cases c : there es a = false ∨ there es b = false
    · rw [if_pos c] at h; cases h
    · rw [if_neg c] at h
      split at h
      · cases h
      · rename_i he
        have e : (made g es (.join a b)).2.length = (wordOf es b).length + (wordOf es a).length := List.length_append ..
        have ha := wd (tr fun z => c (.inl z))
        have he' : ¬ 8 < (wordOf es a).length + (wordOf es b).length := he
        exact ⟨by omega, by omega, fun w' q => by cases q⟩
  | cut a lo n =>
    unfold wrong at h
    dsimp only at h
    by_cases c : there es a = false
    · rw [if_pos c] at h; cases h
    · rw [if_neg c] at h
      split at h
      · cases h
      · rename_i he
        have e : (made g es (.cut a lo n)).2.length = min n ((wordOf es a).length - lo) := by
          show (((wordOf es a).drop lo).take n).length = _
          rw [List.length_take, List.length_drop]
        have ha := wd (tr c)
        have he' : ¬ (n = 0 ∨ (wordOf es a).length < lo + n) := he
        exact ⟨by omega, by omega, fun w' q => by cases q⟩
  | wide s a w =>
    unfold wrong at h
    dsimp only at h
    by_cases c : there es a = false
    · rw [if_pos c] at h; cases h
    · rw [if_neg c] at h
      split at h
      · cases h
      · rename_i he
        have e : (made g es (.wide s a w)).2.length = (wordOf es a).length + (w - (wordOf es a).length) := by
          show (wordOf es a ++ List.replicate (w - widthOf es a) _).length = _
          rw [List.length_append, List.length_replicate]
          rfl
        have ha := wd (tr c)
        have he' : ¬ (w < (wordOf es a).length ∨ 8 < w) := he
        exact ⟨by omega, by omega, fun w' q => by cases q⟩
  | pick c a b =>
    unfold wrong at h
    dsimp only at h
    by_cases k : there es c = false ∨ there es a = false ∨ there es b = false
    · rw [if_pos k] at h; cases h
    · rw [if_neg k] at h
      split at h
      · rename_i he
        have e : (made g es (.pick c a b)).2.length = (wordOf es a).length := muxes_out _ _ _ _ he.2
        have ha := wd (tr fun z => k (.inr (.inl z)))
        exact ⟨by omega, by omega, fun w' q => by cases q⟩
      · cases h
end BS

set_option Elab.async false
set_option linter.all false
namespace BS
open Sm03
/-! ### what each term means, by its literals -/
def SemE (es : List Entry) (val : Nat → Bool) (i : Nat) (e : Entry) : Prop := match e.term with
  | .input _ => True
  | .const _ v => wv val e.word = v
  | .not a => a < i ∧ wv val e.word = 2 ^ widthOf es a - 1 - wv val (wordOf es a)
  | .neg a => a < i ∧ wv val e.word = (2 ^ widthOf es a - wv val (wordOf es a)) % 2 ^ widthOf es a
  | .two o a b => a < i ∧ b < i ∧ wv val e.word = meant (widthOf es a) (wv val (wordOf es a)) (wv val (wordOf es b)) o
  | .join a b => a < i ∧ b < i ∧ wv val e.word = wv val (wordOf es a) * 2 ^ widthOf es b + wv val (wordOf es b)
  | .cut a lo n => a < i ∧ wv val e.word = wv val (wordOf es a) / 2 ^ lo % 2 ^ n
  | .wide s a x => a < i ∧ wv val e.word = if s = true ∧ 2 ^ widthOf es a ≤ 2 * wv val (wordOf es a) then wv val (wordOf es a) + 2 ^ x - 2 ^ widthOf es a else wv val (wordOf es a)
  | .pick c a b => c < i ∧ a < i ∧ b < i ∧ wv val e.word = if wv val (wordOf es c) = 1 then wv val (wordOf es a) else wv val (wordOf es b)
theorem wv_bits {val : Nat → Bool} (hz : val 0 = false) : ∀ (w v : Nat), wv val (bitsOf w v) = v % 2 ^ w
  | 0, v => by rw [Nat.pow_zero, Nat.mod_one]; rfl
  | w + 1, v => by
    show (lv val (v % 2)).toNat + 2 * wv val (bitsOf w (v / 2)) = v % 2 ^ (w + 1)
    rw [wv_bits hz w (v / 2), Nat.pow_succ, Nat.mul_comm (2 ^ w) 2, Nat.mod_mul]
    congr 1
    rcases Nat.mod_two_eq_zero_or_one v with h | h
    · rw [h, lv_zero hz]; rfl
    · rw [h, lv_one hz]; rfl
theorem wv_copies {val : Nat → Bool} {x : Nat} (hx : lv val x = true) : ∀ n : Nat, wv val (List.replicate n x) + 1 = 2 ^ n
  | 0 => rfl
  | n + 1 => by
    have := wv_copies hx n
    rw [List.replicate_succ, wv_cons, hx, Nat.pow_succ]
    show 1 + 2 * _ + 1 = _
    omega
theorem made_sem {val : Nat → Bool} {g : Graph} {es : List Entry} {t : Term} (hw : ∀ e ∈ es, 1 ≤ e.word.length ∧ e.word.length ≤ 8) (h : wrong es t = 0) (k : Con val (made g es t).1) : SemE es val es.length ⟨t, (made g es t).2⟩ := by
  have lt : ∀ {i : Nat}, there es i = true → i < es.length := fun h => of_decide_eq_true h
  have wd : ∀ {i : Nat}, there es i = true → 1 ≤ (wordOf es i).length := fun {i} hi => by
    have hl : i < es.length := lt hi
    unfold wordOf
    rw [List.getElem?_eq_getElem hl]
    exact (hw _ (List.getElem_mem hl)).1
  have tr : ∀ {i : Nat}, ¬ there es i = false → there es i = true := fun {i} h => by cases q : there es i with
    | true => rfl
    | false => exact (h q).elim
  have hz := k.zero
  cases t with
  | input w => exact True.intro
  | const w v =>
    unfold wrong at h
    dsimp only at h
    split at h
    · cases h
    · split at h
      · cases h
      · show wv val (bitsOf w v) = v
        rw [wv_bits hz, Nat.mod_eq_of_lt (by omega)]
  | not a =>
    unfold wrong at h
    dsimp only at h
    split at h
    · rename_i ha
      refine ⟨lt ha, ?_⟩
      have := wv_not (val := val) (wordOf es a)
      show wv val ((wordOf es a).map not_) = 2 ^ (wordOf es a).length - 1 - wv val (wordOf es a)
      omega
    · cases h
  | neg a =>
    unfold wrong at h
    dsimp only at h
    split at h
    · rename_i ha
      refine ⟨lt ha, ?_⟩
      have hn : (noes (wordOf es a)).length = (wordOf es a).length := by unfold noes; rw [List.length_map]
      have := sub_sem hn k
      rw [wv_noes hz, hn, Nat.zero_add] at this
      exact this
    · cases h
  | two o a b =>
    unfold wrong at h
    dsimp only at h
    by_cases c : there es a = false ∨ there es b = false
    · rw [if_pos c] at h; cases h
    · rw [if_neg c] at h
      split at h
      · rename_i he
        have ha := tr fun z => c (.inl z)
        exact ⟨lt ha, lt (tr fun z => c (.inr z)), (two_sem o he (wd ha) k).2⟩
      · cases h
  | join a b =>
    unfold wrong at h
    dsimp only at h
    by_cases c : there es a = false ∨ there es b = false
    · rw [if_pos c] at h; cases h
    · refine ⟨lt (tr fun z => c (.inl z)), lt (tr fun z => c (.inr z)), ?_⟩
      show wv val (wordOf es b ++ wordOf es a) = wv val (wordOf es a) * 2 ^ (wordOf es b).length + wv val (wordOf es b)
      rw [wv_app, Nat.add_comm, Nat.mul_comm]
  | cut a lo n =>
    unfold wrong at h
    dsimp only at h
    by_cases c : there es a = false
    · rw [if_pos c] at h; cases h
    · refine ⟨lt (tr c), ?_⟩
      show wv val (((wordOf es a).drop lo).take n) = _
      rw [wv_take, wv_drop]
  | wide s a w =>
    unfold wrong at h
    dsimp only at h
    by_cases c : there es a = false
    · rw [if_pos c] at h; cases h
    · rw [if_neg c] at h
      split at h
      · cases h
      · rename_i he
        have he' : ¬ (w < (wordOf es a).length ∨ 8 < w) := he
        refine ⟨lt (tr c), ?_⟩
        have hl := wd (tr c)
        have hs := last_sem (val := val) hl
        show wv val (wordOf es a ++ List.replicate (w - (wordOf es a).length) (if s = true then last (wordOf es a) else 0)) = if s = true ∧ 2 ^ (wordOf es a).length ≤ 2 * wv val (wordOf es a) then wv val (wordOf es a) + 2 ^ w - 2 ^ (wordOf es a).length else wv val (wordOf es a)
        rw [wv_app]
        cases s with
        | false =>
          rw [if_neg Bool.false_ne_true, wv_zeros hz, Nat.mul_zero, Nat.add_zero, if_neg (fun z => Bool.false_ne_true z.1)]
        | true =>
          rw [if_pos rfl]
          by_cases hh : 2 ^ (wordOf es a).length ≤ 2 * wv val (wordOf es a)
          · rw [if_pos ⟨rfl, hh⟩]
            have hc := wv_copies (val := val) (x := last (wordOf es a)) (by rw [hs]; exact decide_eq_true hh) (w - (wordOf es a).length)
            have hp : 2 ^ (wordOf es a).length * 2 ^ (w - (wordOf es a).length) = 2 ^ w := by rw [← Nat.pow_add]; congr 1; omega
            rw [← hc, Nat.mul_add, Nat.mul_one] at hp
            omega
          · rw [if_neg (fun z => hh z.2), wv_rep (by rw [hs]; exact decide_eq_false hh), Nat.mul_zero, Nat.add_zero]
  | pick c a b =>
    unfold wrong at h
    dsimp only at h
    by_cases q : there es c = false ∨ there es a = false ∨ there es b = false
    · rw [if_pos q] at h; cases h
    · rw [if_neg q] at h
      split at h
      · rename_i he
        refine ⟨lt (tr fun z => q (.inl z)), lt (tr fun z => q (.inr (.inl z))), lt (tr fun z => q (.inr (.inr z))), ?_⟩
        obtain ⟨x, hx⟩ : ∃ x, wordOf es c = [x] := List.length_eq_one_iff.mp he.1
        have hm := muxes_sem he.2 k
        refine hm.trans ?_
        rw [hx, wv_one]
        show (if lv val x = true then _ else _) = if (lv val x).toNat = 1 then _ else _
        cases lv val x <;> rfl
      · cases h
theorem word_app {es : List Entry} {e : Entry} {i : Nat} (h : i < es.length) : wordOf (es ++ [e]) i = wordOf es i := by
  unfold wordOf
  rw [List.getElem?_append_left h]
/-- a term more leaves what the earlier ones mean -/
theorem SemE.more {es : List Entry} {val : Nat → Bool} {i : Nat} {e x : Entry} (hi : i ≤ es.length) (h : SemE es val i e) : SemE (es ++ [x]) val i e := by
  have wo : ∀ {a : Nat}, a < i → wordOf (es ++ [x]) a = wordOf es a := fun ha => word_app (by omega)
  have wi : ∀ {a : Nat}, a < i → widthOf (es ++ [x]) a = widthOf es a := fun ha => by unfold widthOf; rw [wo ha]
  unfold SemE at h ⊢
  cases q : e.term <;> simp only [q] at h ⊢
  · exact h
  · obtain ⟨h1, h2⟩ := h
    exact ⟨h1, by rw [wo h1, wi h1]; exact h2⟩
  · obtain ⟨h1, h2⟩ := h
    exact ⟨h1, by rw [wo h1, wi h1]; exact h2⟩
  · obtain ⟨h1, h2, h3⟩ := h
    exact ⟨h1, h2, by rw [wo h1, wi h1, wo h2]; exact h3⟩
  · obtain ⟨h1, h2, h3⟩ := h
    exact ⟨h1, h2, by rw [wo h1, wo h2, wi h2]; exact h3⟩
  · obtain ⟨h1, h2⟩ := h
    exact ⟨h1, by rw [wo h1]; exact h2⟩
  · obtain ⟨h1, h2⟩ := h
    exact ⟨h1, by rw [wo h1, wi h1]; exact h2⟩
  · obtain ⟨h1, h2, h3, h4⟩ := h
    exact ⟨h1, h2, h3, by rw [wo h1, wo h2, wo h3]; exact h4⟩
/-- the words of the inputs -/
def inpW (es : List Entry) : List (List Nat) := es.filterMap fun e => match e.term with
  | .input _ => some e.word
  | _ => none
theorem values_go {val : Nat → Bool} {es : List Entry} (hs : ∀ i e, es[i]? = some e → SemE es val i e) : ∀ (l pre : List Entry) (ins : List Nat), es = pre ++ l → ins = (inpW l).map (wv val) → valuesOf es l ins (pre.map fun e => wv val e.word) = es.map fun e => wv val e.word
  | [], pre, ins, he, hi => by
    rw [he, List.append_nil]
    rfl
  | e :: l, pre, ins, he, hi => by
    have ht : es[pre.length]? = some e := by rw [he, List.getElem?_append_right (Nat.le_refl _), Nat.sub_self]; rfl
    have sem := hs _ _ ht
    have ih := values_go hs l (pre ++ [e])
    have snoc : (pre ++ [e]).map (fun e => wv val e.word) = pre.map (fun e => wv val e.word) ++ [wv val e.word] := by rw [List.map_append]; rfl
    have he2 : es = (pre ++ [e]) ++ l := by rw [he, List.append_assoc]; rfl
    have vat : ∀ {a : Nat}, a < pre.length → (pre.map fun e => wv val e.word).getD a 0 = wv val (wordOf es a) := fun {a} ha => by
      have : pre[a]? = some pre[a] := List.getElem?_eq_getElem ha
      rw [List.getD_eq_getElem?_getD, List.getElem?_map, this]
      unfold wordOf
      rw [he, List.getElem?_append_left ha, this]
      rfl
    rw [snoc] at ih
    unfold valuesOf
    unfold SemE at sem
    unfold inpW at hi
    rw [List.filterMap_cons] at hi
    cases q : e.term <;> simp only [q] at sem hi ⊢
    · rw [hi, List.map_cons]
      exact ih _ he2 rfl
    · rw [← sem]; exact ih _ he2 hi
    · obtain ⟨h1, h2⟩ := sem
      rw [vat h1, ← h2]; exact ih _ he2 hi
    · obtain ⟨h1, h2⟩ := sem
      rw [vat h1, ← h2]; exact ih _ he2 hi
    · obtain ⟨h1, h2, h3⟩ := sem
      rw [vat h1, vat h2, ← h3]; exact ih _ he2 hi
    · obtain ⟨h1, h2, h3⟩ := sem
      rw [vat h1, vat h2, ← h3]; exact ih _ he2 hi
    · obtain ⟨h1, h2⟩ := sem
      rw [vat h1, ← h2]; exact ih _ he2 hi
    · obtain ⟨h1, h2⟩ := sem
      rw [vat h1, ← h2]; exact ih _ he2 hi
    · obtain ⟨h1, h2, h3, h4⟩ := sem
      rw [vat h1, vat h2, vat h3, ← h4]; exact ih _ he2 hi
/-- **The literals tell the values.** -/
theorem values_eq {val : Nat → Bool} {es : List Entry} (hs : ∀ i e, es[i]? = some e → SemE es val i e) : values es ((inpW es).map (wv val)) = es.map fun e => wv val e.word := values_go hs es [] _ rfl rfl
end BS

set_option Elab.async false
set_option linter.all false
namespace BS
open Sm03
/-! ### gates name earlier nodes; only inputs bring bits -/
def Lit (g : Graph) (l : Nat) : Prop := l < 2 * (g.length + 1)
def Lits (g : Graph) (ws : List Nat) : Prop := ∀ l ∈ ws, Lit g l
def Earlier (g : Graph) : Prop := ∀ i a b, g[i]? = some (Node.gate a b) → 2 ≤ a ∧ a < b ∧ b < 2 * (i + 1)
/-- only gates come, and they name earlier nodes -/
structure Ext (g g' : Graph) : Prop where
  app : ∃ t, g' = g ++ t ∧ ∀ x ∈ t, x ≠ Node.bit
  earl : Earlier g → Earlier g'
theorem Ext.refl (g : Graph) : Ext g g := ⟨⟨[], (List.append_nil _).symm, fun _ h => by cases h⟩, id⟩
theorem Ext.trans {a b c : Graph} (h : Ext a b) (k : Ext b c) : Ext a c := by
  obtain ⟨t, rfl, ht⟩ := h.app
  obtain ⟨u, rfl, hu⟩ := k.app
  refine ⟨⟨t ++ u, List.append_assoc _ _ _, fun x hx => ?_⟩, fun e => k.earl (h.earl e)⟩
  rcases List.mem_append.mp hx with q | q
  · exact ht x q
  · exact hu x q
theorem Ext.len {a b : Graph} (h : Ext a b) : a.length ≤ b.length := by
  obtain ⟨t, rfl, _⟩ := h.app
  rw [List.length_append]
  omega
theorem Ext.lit {a b : Graph} (h : Ext a b) {l : Nat} (q : Lit a l) : Lit b l := by
  have := h.len
  unfold Lit at *
  omega
theorem Ext.lits {a b : Graph} (h : Ext a b) {ws : List Nat} (q : Lits a ws) : Lits b ws := fun l hl => h.lit (q l hl)
theorem lit_not {g : Graph} {l : Nat} (h : Lit g l) : Lit g (not_ l) := by
  unfold Lit not_ at *
  split <;> omega
theorem lits_not {g : Graph} {ws : List Nat} (h : Lits g ws) : Lits g (ws.map not_) := fun l hl => by
  obtain ⟨x, hx, rfl⟩ := List.mem_map.mp hl
  exact lit_not (h x hx)
theorem lit0 (g : Graph) : Lit g 0 := by unfold Lit; omega
theorem lit1 (g : Graph) : Lit g 1 := by unfold Lit; omega
theorem lits_cons {g : Graph} {x : Nat} {l : List Nat} (hx : Lit g x) (hl : Lits g l) : Lits g (x :: l) := fun y hy => by
  rcases List.mem_cons.mp hy with rfl | h
  · exact hx
  · exact hl y h
theorem lits_nil (g : Graph) : Lits g [] := fun _ h => by cases h
theorem lits_app {g : Graph} {a b : List Nat} (ha : Lits g a) (hb : Lits g b) : Lits g (a ++ b) := fun y hy => by
  rcases List.mem_append.mp hy with h | h
  · exact ha y h
  · exact hb y h
theorem lits_rep {g : Graph} {x : Nat} (hx : Lit g x) (n : Nat) : Lits g (List.replicate n x) := fun y hy => by
  rw [List.eq_of_mem_replicate hy]
  exact hx
theorem lits_take {g : Graph} {a : List Nat} (h : Lits g a) (n : Nat) : Lits g (a.take n) := fun y hy => h y (List.mem_of_mem_take hy)
theorem lits_drop {g : Graph} {a : List Nat} (h : Lits g a) (n : Nat) : Lits g (a.drop n) := fun y hy => h y (List.mem_of_mem_drop hy)
structure Fine (g : Graph) (r : Graph × Nat) : Prop where
  ext : Ext g r.1
  lit : Lit r.1 r.2
structure FineW (g : Graph) (r : Graph × List Nat) : Prop where
  ext : Ext g r.1
  lits : Lits r.1 r.2
theorem and_fine {g : Graph} {a b : Nat} (ha : Lit g a) (hb : Lit g b) : Fine g (and_ g a b) := by
  unfold and_
  dsimp only
  have hx : Lit g (min a b) := by unfold Lit at *; omega
  have hy : Lit g (max a b) := by unfold Lit at *; omega
  have le : min a b ≤ max a b := by omega
  generalize min a b = x at *
  generalize max a b = y at *
  by_cases h0 : x = 0
  · rw [if_pos h0]; exact ⟨Ext.refl _, lit0 _⟩
  rw [if_neg h0]
  by_cases h1 : x = 1
  · rw [if_pos h1]; exact ⟨Ext.refl _, hy⟩
  rw [if_neg h1]
  by_cases h2 : x = y
  · rw [if_pos h2]; exact ⟨Ext.refl _, hx⟩
  rw [if_neg h2]
  by_cases h3 : x / 2 = y / 2
  · rw [if_pos h3]; exact ⟨Ext.refl _, lit0 _⟩
  rw [if_neg h3]
  cases e : (g.findIdx? fun n => n == Node.gate x y) with
  | some i =>
    dsimp only
    obtain ⟨hi, _, _⟩ := List.findIdx?_eq_some_iff_getElem.mp e
    exact ⟨Ext.refl _, by unfold Lit; dsimp only; omega⟩
  | none =>
    dsimp only
    refine ⟨⟨⟨[.gate x y], rfl, fun z hz => ?_⟩, fun he i p q hpq => ?_⟩, ?_⟩
    · rw [List.mem_singleton] at hz
      subst hz
      intro z
      cases z
    · by_cases hi : i < g.length
      · rw [List.getElem?_append_left hi] at hpq
        exact he i p q hpq
      · have hlt := (List.getElem?_eq_some_iff.mp hpq).1
        rw [List.length_append] at hlt
        have hi' : i = g.length := by
          have : [Node.gate x y].length = 1 := rfl
          omega
        subst hi'
        rw [List.getElem?_append_right (Nat.le_refl _), Nat.sub_self] at hpq
        injection hpq with hpq
        injection hpq with e1 e2
        subst e1 e2
        unfold Lit at hy
        exact ⟨by omega, by omega, hy⟩
    · unfold Lit
      dsimp only
      rw [List.length_append]
      show 2 * (g.length + 1) < 2 * (g.length + 1 + 1)
      omega
theorem or_fine {g : Graph} {a b : Nat} (ha : Lit g a) (hb : Lit g b) : Fine g (or_ g a b) := by
  have h := and_fine (lit_not ha) (lit_not hb)
  exact ⟨h.ext, lit_not h.lit⟩
theorem xor_fine {g : Graph} {a b : Nat} (ha : Lit g a) (hb : Lit g b) : Fine g (xor_ g a b) := by
  have h1 := and_fine ha (lit_not hb)
  have h2 := and_fine (h1.ext.lit (lit_not ha)) (h1.ext.lit hb)
  have h3 := or_fine (h2.ext.lit h1.lit) h2.lit
  exact ⟨h1.ext.trans (h2.ext.trans h3.ext), h3.lit⟩
theorem mux_fine {g : Graph} {c a b : Nat} (hc : Lit g c) (ha : Lit g a) (hb : Lit g b) : Fine g (mux g c a b) := by
  have h1 := and_fine hc ha
  have h2 := and_fine (h1.ext.lit (lit_not hc)) (h1.ext.lit hb)
  have h3 := or_fine (h2.ext.lit h1.lit) h2.lit
  exact ⟨h1.ext.trans (h2.ext.trans h3.ext), h3.lit⟩
theorem each2_fine {f : Graph → Nat → Nat → Graph × Nat} {g0 : Graph} (hf : ∀ g a b, Ext g0 g → Lit g a → Lit g b → Fine g (f g a b)) : ∀ (a b : List Nat) (g : Graph), Ext g0 g → Lits g a → Lits g b → FineW g (each2 f g a b)
  | [], _, g, _, _, _ => ⟨Ext.refl _, lits_nil _⟩
  | _ :: _, [], g, _, _, _ => ⟨Ext.refl _, lits_nil _⟩
  | x :: l, y :: r, g, h0, ha, hb => by
    have h1 := hf g x y h0 (ha x (List.mem_cons_self ..)) (hb y (List.mem_cons_self ..))
    have h2 := each2_fine hf l r (f g x y).1 (h0.trans h1.ext) (h1.ext.lits fun z hz => ha z (List.mem_cons_of_mem _ hz)) (h1.ext.lits fun z hz => hb z (List.mem_cons_of_mem _ hz))
    exact ⟨h1.ext.trans h2.ext, lits_cons (h2.ext.lit h1.lit) h2.lits⟩
theorem muxes_fine {g : Graph} {c : Nat} {a b : List Nat} (hc : Lit g c) (ha : Lits g a) (hb : Lits g b) : FineW g (muxes c g a b) :=
  each2_fine (g0 := g) (fun g' x y e hx hy => mux_fine (e.lit hc) hx hy) a b g (Ext.refl g) ha hb
theorem adds_fine : ∀ (a b : List Nat) (g : Graph) (c : Nat), Lit g c → Lits g a → Lits g b → Ext g (adds g c a b).1 ∧ Lits (adds g c a b).1 (adds g c a b).2.1 ∧ Lit (adds g c a b).1 (adds g c a b).2.2
  | [], _, g, c, hc, _, _ => ⟨Ext.refl _, lits_nil _, hc⟩
  | _ :: _, [], g, c, hc, _, _ => ⟨Ext.refl _, lits_nil _, hc⟩
  | x :: l, y :: r, g, c, hc, ha, hb => by
    have hx := ha x (List.mem_cons_self ..)
    have hy := hb y (List.mem_cons_self ..)
    have h1 := xor_fine hx hy
    have h2 := xor_fine h1.lit (h1.ext.lit hc)
    have e2 := h1.ext.trans h2.ext
    have h3 := and_fine (e2.lit hx) (e2.lit hy)
    have e3 := e2.trans h3.ext
    have h4 := and_fine (h3.ext.lit (h2.ext.lit h1.lit)) (e3.lit hc)
    have h5 := or_fine (h4.ext.lit h3.lit) h4.lit
    have e5 := e3.trans (h4.ext.trans h5.ext)
    obtain ⟨i1, i2, i3⟩ := adds_fine l r _ _ h5.lit (e5.lits fun z hz => ha z (List.mem_cons_of_mem _ hz)) (e5.lits fun z hz => hb z (List.mem_cons_of_mem _ hz))
    exact ⟨e5.trans i1, lits_cons (i1.lit (h5.ext.lit (h4.ext.lit (h3.ext.lit h2.lit)))) i2, i3⟩
theorem subs_fine {g : Graph} {a b : List Nat} (ha : Lits g a) (hb : Lits g b) : Ext g (subs g a b).1 ∧ Lits (subs g a b).1 (subs g a b).2.1 ∧ Lit (subs g a b).1 (subs g a b).2.2 := adds_fine _ _ _ _ (lit1 g) ha (lits_not hb)
theorem lits_up {g : Graph} {a : List Nat} (h : Lits g a) (n w : Nat) : Lits g ((List.replicate n 0 ++ a).take w) := lits_take (lits_app (lits_rep (lit0 g) n) h) w
theorem part_fine {g : Graph} {x : Nat} {b : List Nat} (hx : Lit g x) (hb : Lits g b) : FineW g (part g x b) :=
  each2_fine (g0 := g) (fun g' x y e hx hy => and_fine hx hy) _ _ g (Ext.refl g) (fun z hz => by obtain ⟨_, _, rfl⟩ := List.mem_map.mp hz; exact hx) hb
theorem muls_fine (w : Nat) (b : List Nat) : ∀ (l : List Nat) (g : Graph) (i : Nat) (acc : List Nat), Lits g l → Lits g b → Lits g acc → FineW g (muls w b g l i acc)
  | [], g, i, acc, _, _, h => ⟨Ext.refl _, h⟩
  | x :: l, g, i, acc, hl, hb, h => by
    have h1 := part_fine (hl x (List.mem_cons_self ..)) (lits_up hb i w)
    obtain ⟨a1, a2, _⟩ := adds_fine acc _ _ 0 (lit0 _) (h1.ext.lits h) h1.lits
    have e := h1.ext.trans a1
    have ih := muls_fine w b l _ (i + 1) _ (e.lits fun z hz => hl z (List.mem_cons_of_mem _ hz)) (e.lits hb) a2
    exact ⟨e.trans ih.ext, ih.lits⟩
theorem divs_fine (b : List Nat) : ∀ (l : List Nat) (g : Graph) (q r : List Nat), Lits g l → Lits g b → Lits g q → Lits g r → Ext g (divs b g l q r).1 ∧ Lits (divs b g l q r).1 (divs b g l q r).2.1 ∧ Lits (divs b g l q r).1 (divs b g l q r).2.2
  | [], g, q, r, _, _, hq, hr => ⟨Ext.refl _, hq, hr⟩
  | x :: l, g, q, r, hl, hb, hq, hr => by
    have ht : Lits g (x :: r) := lits_cons (hl x (List.mem_cons_self ..)) hr
    obtain ⟨s1, s2, s3⟩ := subs_fine ht (lits_app hb (lits_cons (lit0 g) (lits_nil g)))
    have m := muxes_fine s3 s2 (s1.lits ht)
    have e := s1.trans m.ext
    obtain ⟨i1, i2, i3⟩ := divs_fine b l _ _ _ (e.lits fun z hz => hl z (List.mem_cons_of_mem _ hz)) (e.lits hb) (lits_cons (m.ext.lit s3) (e.lits hq)) (lits_take m.lits b.length)
    exact ⟨e.trans i1, i2, i3⟩
theorem moves_fine {f : Nat → List Nat → List Nat} (hf : ∀ g n l, Lits g l → Lits g (f n l)) : ∀ (r : List Nat) (g : Graph) (n : Nat) (l : List Nat), Lits g r → Lits g l → FineW g (moves f g r n l)
  | [], g, n, l, _, hl => ⟨Ext.refl _, hl⟩
  | x :: r, g, n, l, hr, hl => by
    have m := muxes_fine (hr x (List.mem_cons_self ..)) (hf g n l hl) hl
    have ih := moves_fine hf r _ (2 * n) _ (m.ext.lits fun z hz => hr z (List.mem_cons_of_mem _ hz)) m.lits
    exact ⟨m.ext.trans ih.ext, ih.lits⟩
theorem alls_fine : ∀ (l : List Nat) (g : Graph) (x : Nat), Lit g x → Lits g l → Fine g (alls g x l)
  | [], g, x, hx, _ => ⟨Ext.refl _, hx⟩
  | a :: l, g, x, hx, hl => by
    have h1 := and_fine hx (hl a (List.mem_cons_self ..))
    have ih := alls_fine l _ _ h1.lit (h1.ext.lits fun z hz => hl z (List.mem_cons_of_mem _ hz))
    exact ⟨h1.ext.trans ih.ext, ih.lit⟩
theorem lit_last {g : Graph} {l : List Nat} (h : Lits g l) : Lit g (last l) := by
  unfold last
  rw [List.getLastD_eq_getLast?]
  cases e : l.getLast? with
  | none => exact lit0 g
  | some x => exact h x (List.mem_of_getLast? e)
theorem lits_turned {g : Graph} {l : List Nat} (h : Lits g l) : Lits g (turned l) := lits_app (fun z hz => h z ((List.dropLast_sublist l).subset hz)) (lits_cons (lit_not (lit_last h)) (lits_nil g))
theorem lits_noes {g : Graph} (l : List Nat) : Lits g (noes l) := fun z hz => by obtain ⟨_, _, rfl⟩ := List.mem_map.mp hz; exact lit0 g
theorem lits_down {g : Graph} {l : List Nat} {z : Nat} (hz : Lit g z) (h : Lits g l) (n : Nat) : Lits g (down z n l) := lits_app (lits_drop h n) (lits_rep hz _)
theorem two_fine {g : Graph} {a b : List Nat} (o : Op) (ha : Lits g a) (hb : Lits g b) : FineW g (twoOf g a b o) := by
  cases o
  · exact each2_fine (g0 := g) (fun g' x y e hx hy => and_fine hx hy) a b g (Ext.refl g) ha hb
  · exact each2_fine (g0 := g) (fun g' x y e hx hy => or_fine hx hy) a b g (Ext.refl g) ha hb
  · exact each2_fine (g0 := g) (fun g' x y e hx hy => xor_fine hx hy) a b g (Ext.refl g) ha hb
  · have h := adds_fine a b g 0 (lit0 g) ha hb
    exact ⟨h.1, h.2.1⟩
  · have h := subs_fine ha hb
    exact ⟨h.1, h.2.1⟩
  · exact muls_fine _ b a g 0 _ ha hb (lits_noes a)
  · have h := divs_fine b a.reverse g [] (noes b) (fun z hz => ha z (List.mem_reverse.mp hz)) hb (lits_nil g) (lits_noes b)
    exact ⟨h.1, h.2.1⟩
  · have h := divs_fine b a.reverse g [] (noes b) (fun z hz => ha z (List.mem_reverse.mp hz)) hb (lits_nil g) (lits_noes b)
    exact ⟨h.1, h.2.2⟩
  · exact moves_fine (fun g n l h => lits_up h n l.length) b g 1 a hb ha
  · exact moves_fine (fun g n l h => lits_down (lit0 g) h n) b g 1 a hb ha
  · exact moves_fine (fun g n l h => lits_down (lit_last h) h n) b g 1 a hb ha
  · have h := each2_fine (g0 := g) (fun g' x y e hx hy => xor_fine hx hy) a b g (Ext.refl g) ha hb
    have h2 := alls_fine _ _ 1 (lit1 _) (lits_not h.lits)
    exact ⟨h.ext.trans h2.ext, lits_cons h2.lit (lits_nil _)⟩
  · have h := subs_fine ha hb
    exact ⟨h.1, lits_cons (lit_not h.2.2) (lits_nil _)⟩
  · have h := subs_fine (lits_turned ha) (lits_turned hb)
    exact ⟨h.1, lits_cons (lit_not h.2.2) (lits_nil _)⟩
/-- a term that's no input -/
theorem made_fine {g : Graph} {es : List Entry} {t : Term} (hes : ∀ e ∈ es, Lits g e.word) (ht : ∀ w, t ≠ .input w) : FineW g (made g es t) := by
  have wo : ∀ i, Lits g (wordOf es i) := fun i => by
    unfold wordOf
    cases e : es[i]? with
    | none => exact lits_nil g
    | some x => exact hes x (List.mem_of_getElem? e)
  cases t with
  | input w => exact (ht w rfl).elim
  | const w v =>
    refine ⟨Ext.refl _, ?_⟩
    have : ∀ w v, Lits g (bitsOf w v) := by
      intro w
      induction w with
      | zero => intro v; exact lits_nil g
      | succ w ih =>
        intro v
        refine lits_cons ?_ (ih _)
        unfold Lit
        omega
    exact this w v
  | not a => exact ⟨Ext.refl _, lits_not (wo a)⟩
  | neg a =>
    have h := subs_fine (lits_noes (wordOf es a)) (wo a)
    exact ⟨h.1, h.2.1⟩
  | two o a b => exact two_fine o (wo a) (wo b)
  | join a b => exact ⟨Ext.refl _, lits_app (wo b) (wo a)⟩
  | cut a lo n => exact ⟨Ext.refl _, lits_take (lits_drop (wo a) lo) n⟩
  | wide s a w =>
    refine ⟨Ext.refl _, lits_app (wo a) (lits_rep ?_ _)⟩
    split
    · exact lit_last (wo a)
    · exact lit0 g
  | pick c a b => exact muxes_fine (lit_last (wo c)) (wo a) (wo b)
/-- the nodes that are inputs' bits, in order -/
def bitsAt : Nat → Graph → List Nat
  | _, [] => []
  | i, .bit :: r => (i + 1) :: bitsAt (i + 1) r
  | i, .gate _ _ :: r => bitsAt (i + 1) r
theorem bitsAt_app : ∀ (g t : Graph) (i : Nat), bitsAt i (g ++ t) = bitsAt i g ++ bitsAt (i + g.length) t
  | [], t, i => rfl
  | .bit :: r, t, i => by
    show (i + 1) :: bitsAt (i + 1) (r ++ t) = (i + 1) :: (bitsAt (i + 1) r ++ _)
    rw [bitsAt_app r t (i + 1), show i + 1 + r.length = i + (Node.bit :: r).length by rw [List.length_cons]; omega]
  | .gate a b :: r, t, i => by
    show bitsAt (i + 1) (r ++ t) = bitsAt (i + 1) r ++ _
    rw [bitsAt_app r t (i + 1), show i + 1 + r.length = i + (Node.gate a b :: r).length by rw [List.length_cons]; omega]
theorem bitsAt_gates : ∀ (t : Graph) (i : Nat), (∀ x ∈ t, x ≠ Node.bit) → bitsAt i t = []
  | [], i, _ => rfl
  | .bit :: r, i, h => (h _ (List.mem_cons_self ..) rfl).elim
  | .gate _ _ :: r, i, h => bitsAt_gates r (i + 1) fun x hx => h x (List.mem_cons_of_mem _ hx)
theorem bitsAt_bits : ∀ (w i : Nat), bitsAt i (List.replicate w Node.bit) = (List.range w).map fun j => i + 1 + j
  | 0, i => rfl
  | w + 1, i => by
    rw [List.replicate_succ, List.range_succ_eq_map, List.map_cons, List.map_map]
    show (i + 1) :: bitsAt (i + 1) (List.replicate w Node.bit) = _
    rw [bitsAt_bits w (i + 1)]
    congr 1
    apply List.map_congr_left
    intro j _
    show i + 1 + 1 + j = i + 1 + (j + 1)
    omega
theorem Ext.bits {g g' : Graph} (h : Ext g g') : bitsAt 0 g' = bitsAt 0 g := by
  obtain ⟨t, rfl, ht⟩ := h.app
  rw [bitsAt_app, bitsAt_gates t _ ht, List.append_nil]
/-- what holds of the terms and gates that stand -/
structure Good (g : Graph) (es : List Entry) : Prop where
  wl : ∀ e ∈ es, 1 ≤ e.word.length ∧ e.word.length ≤ 8
  li : ∀ e ∈ es, Lits g e.word
  ea : Earlier g
  bi : (inpW es).flatten = (bitsAt 0 g).map fun n => 2 * n
  se : ∀ val, Con val g → ∀ i e, es[i]? = some e → SemE es val i e
theorem Good.nil : Good [] [] := by
  refine ⟨?_, ?_, ?_, rfl, ?_⟩
  · intro e h
    cases h
  · intro e h
    cases h
  · intro i a b h
    cases h
  · intro val k i e h
    cases h
theorem inpW_app (es : List Entry) (t : Term) (ws : List Nat) : inpW (es ++ [⟨t, ws⟩]) = inpW es ++ (match t with | .input _ => [ws] | _ => []) := by
  unfold inpW
  rw [List.filterMap_append]
  cases t <;> rfl
theorem Good.add {g : Graph} {es : List Entry} {t : Term} (h : Good g es) (hw : wrong es t = 0) : Good (made g es t).1 (es ++ [⟨t, (made g es t).2⟩]) := by
  obtain ⟨m1, m2, _⟩ := made_len (g := g) h.wl hw
  have pre := made_pre g es t
  have hl : g.length ≤ (made g es t).1.length := pre.length_le
  have se : ∀ val, Con val (made g es t).1 → ∀ i e, (es ++ [⟨t, (made g es t).2⟩])[i]? = some e → SemE (es ++ [⟨t, (made g es t).2⟩]) val i e := by
    intro val k i e he
    by_cases hi : i < es.length
    · rw [List.getElem?_append_left hi] at he
      exact (h.se val (k.pre pre) i e he).more (by omega)
    · have hlt := (List.getElem?_eq_some_iff.mp he).1
      rw [List.length_append] at hlt
      have hi' : i = es.length := by
        have : [(⟨t, (made g es t).2⟩ : Entry)].length = 1 := rfl
        omega
      subst hi'
      rw [List.getElem?_append_right (Nat.le_refl _), Nat.sub_self] at he
      injection he with he
      subst he
      exact (made_sem h.wl hw k).more (Nat.le_refl _)
  have wl : ∀ e ∈ es ++ [⟨t, (made g es t).2⟩], 1 ≤ e.word.length ∧ e.word.length ≤ 8 := fun e he => by
    rcases List.mem_append.mp he with he | he
    · exact h.wl e he
    · rw [List.mem_singleton] at he; subst he; exact ⟨m1, m2⟩
  by_cases ht : ∃ w, t = .input w
  · obtain ⟨w, rfl⟩ := ht
    refine ⟨wl, fun e he => ?_, fun i a b hab => ?_, ?_, se⟩
    · rcases List.mem_append.mp he with he | he
      · intro l q
        have := h.li e he l q
        unfold Lit at this ⊢
        omega
      · rw [List.mem_singleton] at he
        subst he
        intro l q
        obtain ⟨j, hj, rfl⟩ := List.mem_map.mp q
        rw [List.mem_range] at hj
        show 2 * (g.length + 1 + j) < 2 * ((g ++ List.replicate w Node.bit).length + 1)
        rw [List.length_append, List.length_replicate]
        omega
    · have hab : (g ++ List.replicate w Node.bit)[i]? = some (Node.gate a b) := hab
      by_cases hi : i < g.length
      · rw [List.getElem?_append_left hi] at hab
        exact h.ea i a b hab
      · rw [List.getElem?_append_right (by omega)] at hab
        have := List.mem_of_getElem? hab
        rw [List.mem_replicate] at this
        cases this.2
    · rw [inpW_app, List.flatten_append, h.bi]
      show _ = (bitsAt 0 (g ++ List.replicate w Node.bit)).map _
      rw [bitsAt_app, List.map_append, bitsAt_bits, List.map_map]
      congr 1
      show [(List.range w).map fun i => 2 * (g.length + 1 + i)].flatten = _
      rw [List.flatten_singleton]
      apply List.map_congr_left
      intro j _
      show 2 * (g.length + 1 + j) = 2 * (0 + g.length + 1 + j)
      rw [Nat.zero_add]
  · have hni : ∀ w, t ≠ .input w := fun w e => ht ⟨w, e⟩
    have f := made_fine h.li hni
    refine ⟨wl, fun e he => ?_, f.ext.earl h.ea, ?_, se⟩
    · rcases List.mem_append.mp he with he | he
      · exact f.ext.lits (h.li e he)
      · rw [List.mem_singleton] at he; subst he; exact f.lits
    · rw [inpW_app, f.ext.bits, ← h.bi]
      cases t <;> first | exact (hni _ rfl).elim | (show (inpW es ++ []).flatten = _; rw [List.append_nil])
end BS

set_option Elab.async false
set_option linter.all false
namespace BS
open Sm03
/-! ### the calls as one list -/
def cs (l : List Nat) : List Int := l.map fun (x : Nat) => (x : Int)
def callNat : Nat → List Nat → List Nat → Option Sm03.Call
  | 0, [w], _ => some (.new (.input w))
  | 1, [w, v], _ => some (.new (.const w v))
  | 2, [a], _ => some (.new (.not a))
  | 3, [a], _ => some (.new (.neg a))
  | 4, [o, a, b], _ => (Sm03Neutral.opOf o).map fun x => .new (.two x a b)
  | 5, [a, b], _ => some (.new (.join a b))
  | 6, [a, lo, n], _ => some (.new (.cut a lo n))
  | 7, [a, w], _ => some (.new (.wide false a w))
  | 8, [a, w], _ => some (.new (.wide true a w))
  | 9, [c, a, b], _ => some (.new (.pick c a b))
  | 10, [t], _ => some (.claim t)
  | 11, [], _ => some .mark
  | 12, [], _ => some .undo
  | 13, [], _ => some .decide
  | 14, [t, u], _ => some (.same t u)
  | 15, [t], _ => some (.range t)
  | 16, [], _ => some .count
  | 17, [t], _ => some (.bits t)
  | 18, [n], _ => some (.node n)
  | 19, [], _ => some .sizes
  | 20, [], _ => some .clauses
  | 21, [], l => some (.reads l)
  | 22, [t], l => some (.value t l)
  | _, _, _ => none
/-- the numbers that a call has ahead of its row -/
def few : Nat → Nat
  | 0 => 1
  | 1 => 2
  | 2 => 1
  | 3 => 1
  | 4 => 3
  | 5 => 2
  | 6 => 3
  | 7 => 2
  | 8 => 2
  | 9 => 3
  | 10 => 1
  | 14 => 2
  | 15 => 1
  | 17 => 1
  | 18 => 1
  | 22 => 1
  | _ => 0
def putRow (p : Nat) (row : List Nat) : List Int := if 21 ≤ p then ((row.length : Nat) : Int) :: cs row else []
/-- one call at a list's head -/
structure One (l : List Int) (p : Nat) (nums row : List Nat) (x : Sm03.Call) (t : List Int) : Prop where
  eq : l = (p : Int) :: (cs nums ++ (putRow p row ++ t))
  le : p ≤ 22
  nl : nums.length = few p
  rl : row.length ≤ 1210
  x : callNat p nums row = some x
def Small (l : List Int) : Prop := ∀ z ∈ l, 0 ≤ z ∧ z ≤ 4294967295
theorem nat_of {z : Int} (h : 0 ≤ z ∧ z ≤ 4294967295) : Sm03Neutral.nat z = true := by
  unfold Sm03Neutral.nat
  rw [decide_eq_true h.1, decide_eq_true (by omega)]
  rfl
theorem toNat_cs {l : List Int} (h : Small l) : cs (l.map Int.toNat) = l := by
  unfold cs
  rw [List.map_map]
  have : ∀ l : List Int, Small l → l.map ((fun (x : Nat) => (x : Int)) ∘ Int.toNat) = l := by
    intro l
    induction l with
    | nil => intro _; rfl
    | cons z r ih =>
      intro h
      rw [List.map_cons, ih fun y hy => h y (List.mem_cons_of_mem _ hy)]
      congr 1
      have := (h z (List.mem_cons_self ..)).1
      show ((z.toNat : Nat) : Int) = z
      omega
  exact this l h
theorem nats_of {l : List Int} (h : Small l) : Sm03Neutral.nats l = true := List.all_eq_true.mpr fun z hz => nat_of (h z hz)
theorem shape_cases {p : Int} {n k : Nat} (h : PySm03.shape p = some (n, k)) : ∃ q : Nat, p = (q : Int) ∧ q ≤ 22 ∧ n = few q ∧ k = (if 21 ≤ q then 1 else 0) := by
  unfold PySm03.shape at h
  by_cases h0 : p = 0
  · rw [if_pos h0] at h
    cases h
    exact ⟨0, h0, by decide, rfl, rfl⟩
  rw [if_neg h0] at h
  by_cases h1 : p = 1
  · rw [if_pos h1] at h
    cases h
    exact ⟨1, h1, by decide, rfl, rfl⟩
  rw [if_neg h1] at h
  by_cases h2 : p = 2
  · rw [if_pos h2] at h
    cases h
    exact ⟨2, h2, by decide, rfl, rfl⟩
  rw [if_neg h2] at h
  by_cases h3 : p = 3
  · rw [if_pos h3] at h
    cases h
    exact ⟨3, h3, by decide, rfl, rfl⟩
  rw [if_neg h3] at h
  by_cases h4 : p = 4
  · rw [if_pos h4] at h
    cases h
    exact ⟨4, h4, by decide, rfl, rfl⟩
  rw [if_neg h4] at h
  by_cases h5 : p = 5
  · rw [if_pos h5] at h
    cases h
    exact ⟨5, h5, by decide, rfl, rfl⟩
  rw [if_neg h5] at h
  by_cases h6 : p = 6
  · rw [if_pos h6] at h
    cases h
    exact ⟨6, h6, by decide, rfl, rfl⟩
  rw [if_neg h6] at h
  by_cases h7 : p = 7
  · rw [if_pos h7] at h
    cases h
    exact ⟨7, h7, by decide, rfl, rfl⟩
  rw [if_neg h7] at h
  by_cases h8 : p = 8
  · rw [if_pos h8] at h
    cases h
    exact ⟨8, h8, by decide, rfl, rfl⟩
  rw [if_neg h8] at h
  by_cases h9 : p = 9
  · rw [if_pos h9] at h
    cases h
    exact ⟨9, h9, by decide, rfl, rfl⟩
  rw [if_neg h9] at h
  by_cases h10 : p = 10
  · rw [if_pos h10] at h
    cases h
    exact ⟨10, h10, by decide, rfl, rfl⟩
  rw [if_neg h10] at h
  by_cases h11 : p = 11
  · rw [if_pos h11] at h
    cases h
    exact ⟨11, h11, by decide, rfl, rfl⟩
  rw [if_neg h11] at h
  by_cases h12 : p = 12
  · rw [if_pos h12] at h
    cases h
    exact ⟨12, h12, by decide, rfl, rfl⟩
  rw [if_neg h12] at h
  by_cases h13 : p = 13
  · rw [if_pos h13] at h
    cases h
    exact ⟨13, h13, by decide, rfl, rfl⟩
  rw [if_neg h13] at h
  by_cases h14 : p = 14
  · rw [if_pos h14] at h
    cases h
    exact ⟨14, h14, by decide, rfl, rfl⟩
  rw [if_neg h14] at h
  by_cases h15 : p = 15
  · rw [if_pos h15] at h
    cases h
    exact ⟨15, h15, by decide, rfl, rfl⟩
  rw [if_neg h15] at h
  by_cases h16 : p = 16
  · rw [if_pos h16] at h
    cases h
    exact ⟨16, h16, by decide, rfl, rfl⟩
  rw [if_neg h16] at h
  by_cases h17 : p = 17
  · rw [if_pos h17] at h
    cases h
    exact ⟨17, h17, by decide, rfl, rfl⟩
  rw [if_neg h17] at h
  by_cases h18 : p = 18
  · rw [if_pos h18] at h
    cases h
    exact ⟨18, h18, by decide, rfl, rfl⟩
  rw [if_neg h18] at h
  by_cases h19 : p = 19
  · rw [if_pos h19] at h
    cases h
    exact ⟨19, h19, by decide, rfl, rfl⟩
  rw [if_neg h19] at h
  by_cases h20 : p = 20
  · rw [if_pos h20] at h
    cases h
    exact ⟨20, h20, by decide, rfl, rfl⟩
  rw [if_neg h20] at h
  by_cases h21 : p = 21
  · rw [if_pos h21] at h
    cases h
    exact ⟨21, h21, by decide, rfl, rfl⟩
  rw [if_neg h21] at h
  by_cases h22 : p = 22
  · rw [if_pos h22] at h
    cases h
    exact ⟨22, h22, by decide, rfl, rfl⟩
  rw [if_neg h22] at h
  cases h
theorem row_inv {r x t : List Int} (h : PyFlat.row r = some (x, t)) : r = ((x.length : Nat) : Int) :: (x ++ t) := by
  cases r with
  | nil => cases h
  | cons n r =>
    unfold PyFlat.row at h
    dsimp only at h
    split at h
    · rename_i hc
      injection h with h
      injection h with h1 h2
      subst h1 h2
      rw [List.length_take, List.take_append_drop, Nat.min_eq_left hc.2]
      congr 1
      omega
    · cases h
theorem rows1_inv {r : List Int} {xs : List (List Int)} {t : List Int} (h : PyFlat.rows 1 r = some (xs, t)) : ∃ x, xs = [x] ∧ r = ((x.length : Nat) : Int) :: (x ++ t) := by
  unfold PyFlat.rows at h
  cases e : PyFlat.row r with
  | none => rw [e] at h; cases h
  | some y =>
    obtain ⟨x, s⟩ := y
    rw [e] at h
    have h : some ([x], s) = some (xs, t) := h
    injection h with h
    injection h with h1 h2
    subst h1 h2
    exact ⟨x, rfl, row_inv e⟩
/-- what one call is, as it was read -/
theorem call_inv {l : List Int} {c : List (List Int)} {t : List Int} (h : PyFlat.call PySm03.shape l = some (c, t)) :
    ∃ (p : Nat) (a x : List Int), p ≤ 22 ∧ a.length = few p ∧ ((21 ≤ p ∧ c = [(p : Int) :: a, x] ∧ l = (p : Int) :: (a ++ (((x.length : Nat) : Int) :: (x ++ t)))) ∨ (¬ 21 ≤ p ∧ x = [] ∧ c = [(p : Int) :: a] ∧ l = (p : Int) :: (a ++ t))) := by
  cases l with
  | nil => cases h
  | cons q r =>
    unfold PyFlat.call at h
    dsimp only at h
    cases e : PySm03.shape q with
    | none => rw [e] at h; cases h
    | some y =>
      obtain ⟨n, k⟩ := y
      rw [e] at h
      dsimp only at h
      obtain ⟨p, rfl, hp, rfl, rfl⟩ := shape_cases e
      split at h
      · cases h
      · rename_i hl
        have hl' : few p ≤ r.length := by omega
        have tl : (r.take (few p)).length = few p := by rw [List.length_take]; omega
        by_cases hk : 21 ≤ p
        · rw [if_pos hk] at h
          cases e2 : PyFlat.rows 1 (r.drop (few p)) with
          | none => rw [e2] at h; cases h
          | some z =>
            obtain ⟨xs, s⟩ := z
            rw [e2] at h
            dsimp only at h
            injection h with h
            injection h with h1 h2
            subst h1 h2
            obtain ⟨x, rfl, hr⟩ := rows1_inv e2
            refine ⟨p, r.take (few p), x, hp, tl, .inl ⟨hk, rfl, ?_⟩⟩
            rw [← hr, List.take_append_drop]
        · rw [if_neg hk] at h
          have h : some ([(p : Int) :: r.take (few p)], r.drop (few p)) = some (c, t) := h
          injection h with h
          injection h with h1 h2
          subst h1 h2
          exact ⟨p, r.take (few p), [], hp, tl, .inr ⟨hk, rfl, rfl, by rw [List.take_append_drop]⟩⟩
theorem len1 {a : List Int} (h : a.length = 1) : ∃ x, a = [x] := List.length_eq_one_iff.mp h
theorem len2 {a : List Int} (h : a.length = 2) : ∃ x y, a = [x, y] := by
  match a, h with
  | [x, y], _ => exact ⟨x, y, rfl⟩
theorem len3 {a : List Int} (h : a.length = 3) : ∃ x y z, a = [x, y, z] := by
  match a, h with
  | [x, y, z], _ => exact ⟨x, y, z, rfl⟩
theorem len0 {a : List Int} (h : a.length = 0) : a = [] := List.length_eq_zero_iff.mp h
/-- the document's call, of whole numbers that are not negative -/
theorem callOf_nat {p : Nat} {a x : List Int} {c : List (List Int)} (hp : p ≤ 22) (ha : a.length = few p) (sa : Small a) (sx : Small x) (hc : (21 ≤ p ∧ c = [(p : Int) :: a, x]) ∨ (¬ 21 ≤ p ∧ x = [] ∧ c = [(p : Int) :: a]))
    (hk : (Sm03Neutral.callOf ((PySm03.whole c).headD [])).isSome = true) : Sm03Neutral.callOf ((PySm03.whole c).headD []) = callNat p (a.map Int.toNat) (x.map Int.toNat) ∧ (callNat p (a.map Int.toNat) (x.map Int.toNat)).isSome = true := by
  have key : Sm03Neutral.callOf ((PySm03.whole c).headD []) = callNat p (a.map Int.toNat) (x.map Int.toNat) := by
    match p, hp with
    | 0, _ =>
      obtain ⟨_, rfl, rfl⟩ := hc.resolve_left (fun z => absurd z.1 (by decide))
      obtain ⟨w, rfl⟩ := len1 ha
      exact if_pos (nat_of (sa w (by simp)))
    | 1, _ =>
      obtain ⟨_, rfl, rfl⟩ := hc.resolve_left (fun z => absurd z.1 (by decide))
      obtain ⟨w, v, rfl⟩ := len2 ha
      exact if_pos (nats_of sa)
    | 2, _ =>
      obtain ⟨_, rfl, rfl⟩ := hc.resolve_left (fun z => absurd z.1 (by decide))
      obtain ⟨w, rfl⟩ := len1 ha
      exact if_pos (nat_of (sa w (by simp)))
    | 3, _ =>
      obtain ⟨_, rfl, rfl⟩ := hc.resolve_left (fun z => absurd z.1 (by decide))
      obtain ⟨w, rfl⟩ := len1 ha
      exact if_pos (nat_of (sa w (by simp)))
    | 4, _ =>
      obtain ⟨_, rfl, rfl⟩ := hc.resolve_left (fun z => absurd z.1 (by decide))
      obtain ⟨o, w, v, rfl⟩ := len3 ha
      exact if_pos (nats_of sa)
    | 5, _ =>
      obtain ⟨_, rfl, rfl⟩ := hc.resolve_left (fun z => absurd z.1 (by decide))
      obtain ⟨w, v, rfl⟩ := len2 ha
      exact if_pos (nats_of sa)
    | 6, _ =>
      obtain ⟨_, rfl, rfl⟩ := hc.resolve_left (fun z => absurd z.1 (by decide))
      obtain ⟨o, w, v, rfl⟩ := len3 ha
      exact if_pos (nats_of sa)
    | 7, _ =>
      obtain ⟨_, rfl, rfl⟩ := hc.resolve_left (fun z => absurd z.1 (by decide))
      obtain ⟨w, v, rfl⟩ := len2 ha
      exact if_pos (nats_of sa)
    | 8, _ =>
      obtain ⟨_, rfl, rfl⟩ := hc.resolve_left (fun z => absurd z.1 (by decide))
      obtain ⟨w, v, rfl⟩ := len2 ha
      exact if_pos (nats_of sa)
    | 9, _ =>
      obtain ⟨_, rfl, rfl⟩ := hc.resolve_left (fun z => absurd z.1 (by decide))
      obtain ⟨o, w, v, rfl⟩ := len3 ha
      exact if_pos (nats_of sa)
    | 10, _ =>
      obtain ⟨_, rfl, rfl⟩ := hc.resolve_left (fun z => absurd z.1 (by decide))
      obtain ⟨w, rfl⟩ := len1 ha
      exact if_pos (nat_of (sa w (by simp)))
    | 11, _ =>
      obtain ⟨_, rfl, rfl⟩ := hc.resolve_left (fun z => absurd z.1 (by decide))
      obtain rfl := len0 ha
      rfl
    | 12, _ =>
      obtain ⟨_, rfl, rfl⟩ := hc.resolve_left (fun z => absurd z.1 (by decide))
      obtain rfl := len0 ha
      rfl
    | 13, _ =>
      obtain ⟨_, rfl, rfl⟩ := hc.resolve_left (fun z => absurd z.1 (by decide))
      obtain rfl := len0 ha
      rfl
    | 14, _ =>
      obtain ⟨_, rfl, rfl⟩ := hc.resolve_left (fun z => absurd z.1 (by decide))
      obtain ⟨w, v, rfl⟩ := len2 ha
      exact if_pos (nats_of sa)
    | 15, _ =>
      obtain ⟨_, rfl, rfl⟩ := hc.resolve_left (fun z => absurd z.1 (by decide))
      obtain ⟨w, rfl⟩ := len1 ha
      exact if_pos (nat_of (sa w (by simp)))
    | 16, _ =>
      obtain ⟨_, rfl, rfl⟩ := hc.resolve_left (fun z => absurd z.1 (by decide))
      obtain rfl := len0 ha
      rfl
    | 17, _ =>
      obtain ⟨_, rfl, rfl⟩ := hc.resolve_left (fun z => absurd z.1 (by decide))
      obtain ⟨w, rfl⟩ := len1 ha
      exact if_pos (nat_of (sa w (by simp)))
    | 18, _ =>
      obtain ⟨_, rfl, rfl⟩ := hc.resolve_left (fun z => absurd z.1 (by decide))
      obtain ⟨w, rfl⟩ := len1 ha
      exact if_pos (nat_of (sa w (by simp)))
    | 19, _ =>
      obtain ⟨_, rfl, rfl⟩ := hc.resolve_left (fun z => absurd z.1 (by decide))
      obtain rfl := len0 ha
      rfl
    | 20, _ =>
      obtain ⟨_, rfl, rfl⟩ := hc.resolve_left (fun z => absurd z.1 (by decide))
      obtain rfl := len0 ha
      rfl
    | 21, _ =>
      obtain ⟨_, rfl⟩ := hc.resolve_right (fun z => z.1 (by decide))
      obtain rfl := len0 ha
      exact if_pos (nats_of sx)
    | 22, _ =>
      obtain ⟨_, rfl⟩ := hc.resolve_right (fun z => z.1 (by decide))
      obtain ⟨w, rfl⟩ := len1 ha
      exact if_pos ⟨nat_of (sa w (by simp)), nats_of sx⟩
    | p + 23, hp => exact absurd hp (by omega)
  exact ⟨key, by rw [← key]; exact hk⟩
/-- the calls, one after another, from a state: what is told -/
inductive Run : List Int → Sm03.St → List Int → Prop
  | nil {s : Sm03.St} : Run [] s []
  | cons {l t : List Int} {p : Nat} {nums row : List Nat} {x : Sm03.Call} {s : Sm03.St} {out : List Int} (o : One l p nums row x t) (r : Run t (Sm03.step s x).1 out) : Run l s ((((Sm03.step s x).2.length : Nat) : Int) :: (Sm03.step s x).2 ++ out)
theorem step_of {s : Sm03.St} {c : List Int} {x : Sm03.Call} (h : Sm03Neutral.callOf c = some x) : Sm03Neutral.step s c = Sm03.step s x := by
  unfold Sm03Neutral.step
  rw [h]
theorem run_go : ∀ (f : Nat) (l : List Int) (raw : List (List (List Int))) (s : Sm03.St), PyFlat.calls PySm03.shape f l = some raw → Small l → PyInside.calls PySm03.bound raw = true → (∀ c ∈ raw, (Sm03Neutral.callOf ((PySm03.whole c).headD [])).isSome = true) →
    Run l s (PyFlat.told (PyFlat.played (fun s c => Sm03Neutral.step s (c.headD [])) s (raw.map PySm03.whole)))
  | f, [], raw, s, h, _, _, _ => by
    have e : raw = [] := by
      cases f <;> exact (Option.some.inj h).symm
    subst e
    exact .nil
  | 0, _ :: _, raw, s, h, _, _, _ => by cases h
  | f + 1, q :: r, raw, s, h, hs, hb, hk => by
    unfold PyFlat.calls at h
    cases e : PyFlat.call PySm03.shape (q :: r) with
    | none => rw [e] at h; cases h
    | some y =>
      obtain ⟨c, t⟩ := y
      rw [e] at h
      dsimp only at h
      cases e2 : PyFlat.calls PySm03.shape f t with
      | none => rw [e2] at h; cases h
      | some cs' =>
        rw [e2] at h
        dsimp only at h
        injection h with h
        subst h
        obtain ⟨p, a, x, hp, ha, hx⟩ := call_inv e
        have hbc : PyInside.call PySm03.bound c = true := (List.all_eq_true.mp hb) c (List.mem_cons_self ..)
        have hbr : PyInside.calls PySm03.bound cs' = true := List.all_eq_true.mpr fun z hz => (List.all_eq_true.mp hb) z (List.mem_cons_of_mem _ hz)
        have sm : Small a ∧ Small x ∧ Small t := by
          rcases hx with ⟨_, _, hl⟩ | ⟨_, hxx, _, hl⟩
          · refine ⟨fun z hz => hs z ?_, fun z hz => hs z ?_, fun z hz => hs z ?_⟩ <;> rw [hl] <;> simp [hz]
          · refine ⟨fun z hz => hs z ?_, fun z hz => ?_, fun z hz => hs z ?_⟩
            · rw [hl]; simp [hz]
            · rw [hxx] at hz; cases hz
            · rw [hl]; simp [hz]
        obtain ⟨sa, sx, st⟩ := sm
        have rl : x.length ≤ 1210 := by
          rcases hx with ⟨h21, hcc, _⟩ | ⟨_, hxx, _, _⟩
          · rw [hcc] at hbc
            have h2 : p = 21 ∨ p = 22 := by omega
            rcases h2 with rfl | rfl
            · have hbc : (PyInside.each [] a && ((decide (0 ≤ x.length) && decide (x.length ≤ 1210) && x.all (PyInside.within 0 4294967295)) && true)) = true := hbc
              rw [Bool.and_eq_true, Bool.and_eq_true, Bool.and_eq_true, Bool.and_eq_true] at hbc
              exact of_decide_eq_true hbc.2.1.1.2
            · have hbc : (PyInside.each [(0, 4294967295)] a && ((decide (0 ≤ x.length) && decide (x.length ≤ 16) && x.all (PyInside.within 0 4294967295)) && true)) = true := hbc
              rw [Bool.and_eq_true, Bool.and_eq_true, Bool.and_eq_true, Bool.and_eq_true] at hbc
              exact Nat.le_trans (of_decide_eq_true hbc.2.1.1.2) (by decide)
          · rw [hxx]; exact Nat.zero_le _
        have hc' : (21 ≤ p ∧ c = [(p : Int) :: a, x]) ∨ (¬ 21 ≤ p ∧ x = [] ∧ c = [(p : Int) :: a]) := by
          rcases hx with ⟨h1, h2, _⟩ | ⟨h1, h2, h3, _⟩
          · exact .inl ⟨h1, h2⟩
          · exact .inr ⟨h1, h2, h3⟩
        obtain ⟨k1, k2⟩ := callOf_nat hp ha sa sx hc' (hk c (List.mem_cons_self ..))
        obtain ⟨xc, hxc⟩ := Option.isSome_iff_exists.mp k2
        have ih := run_go f t cs' (Sm03.step s xc).1 e2 st hbr fun z hz => hk z (List.mem_cons_of_mem _ hz)
        have es : Sm03Neutral.step s ((PySm03.whole c).headD []) = Sm03.step s xc := step_of (k1.trans hxc)
        have one : One (q :: r) p (a.map Int.toNat) (x.map Int.toNat) xc t := by
          refine ⟨?_, hp, by rw [List.length_map]; exact ha, by rw [List.length_map]; exact rl, hxc⟩
          rw [toNat_cs sa]
          unfold putRow
          rw [toNat_cs sx, List.length_map]
          rcases hx with ⟨h1, _, hl⟩ | ⟨h1, _, _, hl⟩
          · rw [if_pos h1]; exact hl
          · rw [if_neg h1]; exact hl
        have fin := Run.cons (s := s) one ih
        show Run (q :: r) s (PyFlat.told ((Sm03Neutral.step s ((PySm03.whole c).headD [])).2 :: PyFlat.played _ (Sm03Neutral.step s ((PySm03.whole c).headD [])).1 (cs'.map PySm03.whole)))
        rw [es]
        exact fin
/-- **A list that may be handed in**, read call by call; what is told in all is no more than a million numbers and forty. -/
theorem run_answers {l : List Int} (h : PySm03.answers_asked l = true) (hs : Small l) : Run l Sm03.init (PySm03.answers l) ∧ (PySm03.answers l).length ≤ 10000000 := by
  unfold PySm03.answers_asked at h
  cases e : PyFlat.calls PySm03.shape l.length l with
  | none => rw [e] at h; cases h
  | some raw =>
    rw [e] at h
    dsimp only at h
    rw [Bool.and_eq_true, Bool.and_eq_true, Bool.and_eq_true, Bool.and_eq_true] at h
    obtain ⟨⟨⟨⟨_, _⟩, hb⟩, ha⟩, hsh⟩ := h
    have ea : PySm03.answers l = PyFlat.told (PyFlat.played (fun s c => Sm03Neutral.step s (c.headD [])) Sm03Neutral.start (raw.map PySm03.whole)) := by
      unfold PySm03.answers PySm03.calls
      rw [e]
    refine ⟨?_, of_decide_eq_true hsh⟩
    rw [ea]
    refine run_go l.length l raw Sm03.init e hs hb fun c hc => ?_
    unfold Sm03Neutral.asked at ha
    rw [Bool.and_eq_true] at ha
    exact (List.all_eq_true.mp ha.1) _ (List.mem_map.mpr ⟨PySm03.whole c, List.mem_map.mpr ⟨c, hc, rfl⟩, rfl⟩)
end BS

set_option Elab.async false
set_option linter.all false
namespace BS
open Sm03
/-! ### worlds by their numbers -/
def rowAt : List Nat → Nat → List Nat
  | [], _ => []
  | w :: l, k => k / 2 ^ l.sum % 2 ^ w :: rowAt l k
theorem rowAt_len : ∀ (ws : List Nat) (k : Nat), (rowAt ws k).length = ws.length
  | [], _ => rfl
  | w :: l, k => congrArg Nat.succ (rowAt_len l k)
theorem rowAt_mod : ∀ (ws : List Nat) (k s : Nat), ws.sum ≤ s → rowAt ws (k % 2 ^ s) = rowAt ws k
  | [], _, _, _ => rfl
  | w :: l, k, s, h => by
    rw [List.sum_cons] at h
    show k % 2 ^ s / 2 ^ l.sum % 2 ^ w :: rowAt l (k % 2 ^ s) = k / 2 ^ l.sum % 2 ^ w :: rowAt l k
    rw [rowAt_mod l k s (by omega)]
    congr 1
    have e : 2 ^ s = 2 ^ l.sum * 2 ^ (s - l.sum) := by rw [← Nat.pow_add]; congr 1; omega
    have e2 : 2 ^ (s - l.sum) = 2 ^ w * 2 ^ (s - l.sum - w) := by rw [← Nat.pow_add]; congr 1; omega
    rw [e, Nat.mod_mul_right_div_self, e2, Nat.mod_mul_right_mod]
theorem rowAt_app (l : List Nat) (v j : Nat) (hj : j < 2 ^ l.sum) : rowAt l (v * 2 ^ l.sum + j) = rowAt l j := by
  rw [← rowAt_mod l (v * 2 ^ l.sum + j) l.sum (Nat.le_refl _), Nat.mul_comm, Nat.mul_add_mod, Nat.mod_eq_of_lt hj]
theorem range_blocks (b : Nat) : ∀ a : Nat, List.range (a * b) = (List.range a).flatMap fun v => (List.range b).map fun j => v * b + j
  | 0 => by rw [Nat.zero_mul]; rfl
  | a + 1 => by
    rw [Nat.succ_mul, List.range_succ, List.flatMap_append, ← range_blocks b a, List.range_add]
    congr 1
    show _ = (List.map (fun j => a * b + j) (List.range b)) ++ []
    rw [List.append_nil]
theorem rows_eq : ∀ ws : List Nat, rowsOf ws = (List.range (2 ^ ws.sum)).map (rowAt ws)
  | [] => rfl
  | w :: l => by
    show (List.range (2 ^ w)).flatMap (fun v => (rowsOf l).map fun r => v :: r) = _
    rw [rows_eq l, List.sum_cons, Nat.pow_add, range_blocks, List.map_flatMap]
    have fc : ∀ {l : List Nat} {f h : Nat → List (List Nat)}, (∀ v ∈ l, f v = h v) → l.flatMap f = l.flatMap h := fun {l f h} q => by
      rw [List.flatMap_def, List.flatMap_def, List.map_congr_left q]
    refine fc fun v hv => ?_
    rw [List.map_map, List.map_map]
    refine List.map_congr_left fun j hj => ?_
    rw [List.mem_range] at hv hj
    show v :: rowAt l j = (v * 2 ^ l.sum + j) / 2 ^ l.sum % 2 ^ w :: rowAt l (v * 2 ^ l.sum + j)
    rw [rowAt_app l v j hj, Nat.mul_comm v, Nat.mul_add_div (Nat.two_pow_pos _), Nat.div_eq_of_lt hj, Nat.add_zero, Nat.mod_eq_of_lt hv]
/-- the number of a row -/
def numGo : Nat → List Nat → List Nat → Nat
  | a, w :: l, v :: r => numGo (a * 2 ^ w + v) l r
  | a, _, _ => a
theorem numGo_eq : ∀ (ws r : List Nat) (a : Nat), r.length = ws.length → (∀ x ∈ r.zip ws, x.1 < 2 ^ x.2) → ∃ k, k < 2 ^ ws.sum ∧ numGo a ws r = a * 2 ^ ws.sum + k ∧ rowAt ws k = r
  | [], [], a, _, _ => ⟨0, by decide, by show a = a * 1 + 0; omega, rfl⟩
  | [], _ :: _, a, h, _ => by cases h
  | _ :: _, [], a, h, _ => by cases h
  | w :: l, v :: r, a, h, hv => by
    obtain ⟨k, hk, e1, e2⟩ := numGo_eq l r (a * 2 ^ w + v) (Nat.succ.inj h) fun x hx => hv x (List.mem_cons_of_mem _ hx)
    have hv0 : v < 2 ^ w := hv (v, w) (List.mem_cons_self ..)
    refine ⟨v * 2 ^ l.sum + k, ?_, ?_, ?_⟩
    · rw [List.sum_cons, Nat.pow_add]
      calc v * 2 ^ l.sum + k < v * 2 ^ l.sum + 2 ^ l.sum := by omega
        _ = (v + 1) * 2 ^ l.sum := by rw [Nat.succ_mul]
        _ ≤ 2 ^ w * 2 ^ l.sum := Nat.mul_le_mul_right _ hv0
    · show numGo (a * 2 ^ w + v) l r = _
      rw [e1, List.sum_cons, Nat.pow_add, Nat.add_mul, Nat.mul_assoc, Nat.add_assoc]
    · show (v * 2 ^ l.sum + k) / 2 ^ l.sum % 2 ^ w :: rowAt l (v * 2 ^ l.sum + k) = v :: r
      rw [rowAt_app l v k hk, e2, Nat.mul_comm v, Nat.mul_add_div (Nat.two_pow_pos _), Nat.div_eq_of_lt hk, Nat.add_zero, Nat.mod_eq_of_lt hv0]
/-- sums of powers -/
def bitSum (p : Nat → Bool) (n : Nat) : Nat := (((List.range n).filter p).map fun k => 2 ^ k).sum
theorem bitSum_succ (p : Nat → Bool) (n : Nat) : bitSum p (n + 1) = bitSum p n + if p n = true then 2 ^ n else 0 := by
  unfold bitSum
  rw [List.range_succ, List.filter_append, List.map_append, List.sum_append]
  congr 1
  by_cases h : p n = true
  · rw [if_pos h, List.filter_cons_of_pos h]
    show 2 ^ n + 0 = _
    rw [Nat.add_zero]
  · rw [if_neg h, List.filter_cons_of_neg h]
    rfl
theorem bitSum_lt (p : Nat → Bool) : ∀ n : Nat, bitSum p n < 2 ^ n
  | 0 => by show (0 : Nat) < 1; decide
  | n + 1 => by
    have := bitSum_lt p n
    rw [bitSum_succ, Nat.pow_succ]
    split <;> omega
theorem bitSum_bit (p : Nat → Bool) : ∀ (n k : Nat), (bitSum p n).testBit k = (decide (k < n) && p k)
  | 0, k => by
    show (0 : Nat).testBit k = _
    rw [Nat.zero_testBit]
    simp
  | n + 1, k => by
    have lt := bitSum_lt p n
    rw [bitSum_succ]
    by_cases h : p n = true
    · have e : bitSum p n + 2 ^ n = 2 ^ n ||| bitSum p n := by
        have := Nat.two_pow_add_eq_or_of_lt lt 1
        rw [Nat.mul_one] at this
        omega
      rw [if_pos h, e, Nat.testBit_or, Nat.testBit_two_pow, bitSum_bit p n k]
      by_cases hk : k = n
      · subst hk; simp [h]
      · by_cases h2 : k < n
        · simp [h2, Nat.lt_succ_of_lt h2, Ne.symm hk]
        · have : ¬ k < n + 1 := by omega
          simp [h2, this, Ne.symm hk]
    · rw [if_neg h, Nat.add_zero, bitSum_bit p n k]
      by_cases hk : k = n
      · subst hk; simp [h]
      · have : (k < n + 1) ↔ (k < n) := by omega
        simp [this]
end BS

set_option Elab.async false
set_option linter.all false
namespace BS
open Sm03
/-! ### tables: what holds in each world -/
def valT (T : List Nat) (k n : Nat) : Bool := (T.getD n 0).testBit k
def wh (am : Nat) (T : List Nat) (l : Nat) : Nat := if l % 2 = 1 then (2 ^ am - 1) ^^^ T.getD (l / 2) 0 else T.getD (l / 2) 0
theorem wh_bit {am : Nat} {T : List Nat} {l k : Nat} (hk : k < am) : (wh am T l).testBit k = lv (valT T k) l := by
  unfold wh lv valT
  by_cases h : l % 2 = 1
  · rw [if_pos h, if_neg (by omega), Nat.testBit_xor, Nat.testBit_two_pow_sub_one, decide_eq_true hk]
    cases (T.getD (l / 2) 0).testBit k <;> rfl
  · rw [if_neg h, if_pos (by omega)]
theorem getD_snoc {T : List Nat} {t n : Nat} (h : n < T.length) : (T ++ [t]).getD n 0 = T.getD n 0 := by
  rw [List.getD_eq_getElem?_getD, List.getD_eq_getElem?_getD, List.getElem?_append_left h]
theorem getD_last {T : List Nat} {t : Nat} : (T ++ [t]).getD T.length 0 = t := by
  rw [List.getD_eq_getElem?_getD, List.getElem?_append_right (Nat.le_refl _), Nat.sub_self]
  rfl
theorem lv_snoc {T : List Nat} {t k l : Nat} (h : l / 2 < T.length) : lv (valT (T ++ [t]) k) l = lv (valT T k) l := by
  unfold lv valT
  rw [getD_snoc h]
/-- how many bits of a world's number stand below an input -/
def below (es : List Entry) (J : Nat) : Nat := ((inputs es).drop (J + 1)).sum
structure TabOk (am : Nat) (es : List Entry) (g : Graph) (i : Nat) (T : List Nat) : Prop where
  len : T.length = i + 1
  zero : T.getD 0 0 = 0
  gates : ∀ j a b, j < i → g[j]? = some (Node.gate a b) → ∀ k, k < am → valT T k (j + 1) = (lv (valT T k) a && lv (valT T k) b)
  bits : ∀ j, j < i → g[j]? = some Node.bit → ∀ J I w, (inpW es)[J]? = some w → w[I]? = some (2 * (j + 1)) → ∀ k, k < am → valT T k (j + 1) = k.testBit (below es J + I)
theorem TabOk.start {am : Nat} {es : List Entry} {g : Graph} : TabOk am es g 0 [0] := ⟨rfl, rfl, fun j _ _ h => by omega, fun j h => by omega⟩
section
variable {am : Nat} {es : List Entry} {g : Graph} {i : Nat} {T : List Nat}
theorem TabOk.old (h : TabOk am es g i T) (ea : Earlier g) (t : Nat) : (∀ j a b, j < i → g[j]? = some (Node.gate a b) → ∀ k, k < am → valT (T ++ [t]) k (j + 1) = (lv (valT (T ++ [t]) k) a && lv (valT (T ++ [t]) k) b)) ∧
    (∀ j, j < i → g[j]? = some Node.bit → ∀ J I w, (inpW es)[J]? = some w → w[I]? = some (2 * (j + 1)) → ∀ k, k < am → valT (T ++ [t]) k (j + 1) = k.testBit (below es J + I)) := by
  have hl := h.len
  have ev : ∀ {k j : Nat}, j < i → valT (T ++ [t]) k (j + 1) = valT T k (j + 1) := fun {k j} hj => by
    unfold valT
    rw [getD_snoc (by omega)]
  refine ⟨fun j a b hj hg k hk => ?_, fun j hj hg J I w h1 h2 k hk => ?_⟩
  · obtain ⟨e1, e2, e3⟩ := ea j a b hg
    rw [ev hj, lv_snoc (by omega), lv_snoc (by omega)]
    exact h.gates j a b hj hg k hk
  · rw [ev hj]
    exact h.bits j hj hg J I w h1 h2 k hk
theorem TabOk.gate (h : TabOk am es g i T) (ea : Earlier g) {a b : Nat} (hg : g[i]? = some (Node.gate a b)) : TabOk am es g (i + 1) (T ++ [wh am T a &&& wh am T b]) := by
  obtain ⟨o1, o2⟩ := h.old ea (wh am T a &&& wh am T b)
  have hl := h.len
  refine ⟨by rw [List.length_append, hl]; rfl, by rw [getD_snoc (by omega)]; exact h.zero, fun j c d hj hq k hk => ?_, fun j hj hq J I w h1 h2 k hk => ?_⟩
  · by_cases hji : j < i
    · exact o1 j c d hji hq k hk
    · have : j = i := by omega
      subst this
      rw [hg] at hq
      injection hq with hq
      injection hq with q1 q2
      subst q1 q2
      obtain ⟨e1, e2, e3⟩ := ea j a b hg
      rw [lv_snoc (by omega), lv_snoc (by omega)]
      unfold valT
      rw [← hl, getD_last, Nat.testBit_and, wh_bit hk, wh_bit hk]
      rfl
  · by_cases hji : j < i
    · exact o2 j hji hq J I w h1 h2 k hk
    · have : j = i := by omega
      subst this
      rw [hg] at hq
      cases hq
theorem TabOk.bit (h : TabOk am es g i T) (ea : Earlier g) (hg : g[i]? = some Node.bit) {t : Nat} (ht : ∀ J I w, (inpW es)[J]? = some w → w[I]? = some (2 * (i + 1)) → ∀ k, k < am → t.testBit k = k.testBit (below es J + I)) : TabOk am es g (i + 1) (T ++ [t]) := by
  obtain ⟨o1, o2⟩ := h.old ea t
  have hl := h.len
  refine ⟨by rw [List.length_append, hl]; rfl, by rw [getD_snoc (by omega)]; exact h.zero, fun j c d hj hq k hk => ?_, fun j hj hq J I w h1 h2 k hk => ?_⟩
  · by_cases hji : j < i
    · exact o1 j c d hji hq k hk
    · have : j = i := by omega
      subst this
      rw [hg] at hq
      cases hq
  · by_cases hji : j < i
    · exact o2 j hji hq J I w h1 h2 k hk
    · have : j = i := by omega
      subst this
      unfold valT
      rw [← hl, getD_last]
      exact ht J I w h1 h2 k hk
theorem TabOk.con (h : TabOk am es g g.length T) {k : Nat} (hk : k < am) : Con (valT T k) g :=
  ⟨by unfold valT; rw [h.zero, Nat.zero_testBit], fun j a b hg => h.gates j a b (List.getElem?_eq_some_iff.mp hg).1 hg k hk⟩
end
theorem mem_bitsAt : ∀ (g : Graph) (i n : Nat), n ∈ bitsAt i g ↔ ∃ j, n = i + j + 1 ∧ g[j]? = some Node.bit
  | [], i, n => by
    constructor
    · intro h; cases h
    · rintro ⟨j, _, h⟩; cases h
  | .bit :: r, i, n => by
    show n ∈ (i + 1) :: bitsAt (i + 1) r ↔ _
    rw [List.mem_cons, mem_bitsAt r (i + 1) n]
    constructor
    · rintro (h | ⟨j, h1, h2⟩)
      · exact ⟨0, by omega, rfl⟩
      · exact ⟨j + 1, by omega, h2⟩
    · rintro ⟨j, h1, h2⟩
      cases j with
      | zero => exact .inl (by omega)
      | succ j => exact .inr ⟨j, by omega, h2⟩
  | .gate a b :: r, i, n => by
    show n ∈ bitsAt (i + 1) r ↔ _
    rw [mem_bitsAt r (i + 1) n]
    constructor
    · rintro ⟨j, h1, h2⟩
      exact ⟨j + 1, by omega, h2⟩
    · rintro ⟨j, h1, h2⟩
      cases j with
      | zero => cases h2
      | succ j => exact ⟨j, by omega, h2⟩
theorem bitsAt_sorted : ∀ (g : Graph) (i : Nat), (bitsAt i g).Pairwise (· < ·)
  | [], i => List.Pairwise.nil
  | .bit :: r, i => by
    show ((i + 1) :: bitsAt (i + 1) r).Pairwise (· < ·)
    refine List.pairwise_cons.mpr ⟨fun x hx => ?_, bitsAt_sorted r (i + 1)⟩
    obtain ⟨j, h, _⟩ := (mem_bitsAt r (i + 1) x).mp hx
    omega
  | .gate a b :: r, i => bitsAt_sorted r (i + 1)
theorem bitsAt_count : ∀ (g : Graph) (i : Nat), (bitsAt i g).length + (g.filter fun n => n != Node.bit).length = g.length
  | [], i => rfl
  | .bit :: r, i => by
    have := bitsAt_count r (i + 1)
    rw [List.filter_cons_of_neg (by simp)]
    show (bitsAt (i + 1) r).length + 1 + _ = r.length + 1
    omega
  | .gate a b :: r, i => by
    have := bitsAt_count r (i + 1)
    rw [List.filter_cons_of_pos (by simp)]
    show (bitsAt (i + 1) r).length + ((r.filter fun n => n != Node.bit).length + 1) = r.length + 1
    omega
section
variable {g : Graph} {es : List Entry}
/-- a literal of an input's word is of a node that's a bit -/
theorem Good.bitOf (h : Good g es) {J I x : Nat} {w : List Nat} (h1 : (inpW es)[J]? = some w) (h2 : w[I]? = some x) : ∃ j, x = 2 * (j + 1) ∧ g[j]? = some Node.bit := by
  have hx : x ∈ (inpW es).flatten := List.mem_flatten.mpr ⟨w, List.mem_of_getElem? h1, List.mem_of_getElem? h2⟩
  rw [h.bi] at hx
  obtain ⟨n, hn, rfl⟩ := List.mem_map.mp hx
  obtain ⟨j, e, hj⟩ := (mem_bitsAt g 0 n).mp hn
  exact ⟨j, by omega, hj⟩
theorem Good.ofBit (h : Good g es) {j : Nat} (hj : g[j]? = some Node.bit) : ∃ (J I : Nat) (w : List Nat), (inpW es)[J]? = some w ∧ w[I]? = some (2 * (j + 1)) := by
  have : 2 * (j + 1) ∈ (inpW es).flatten := by
    rw [h.bi]
    exact List.mem_map.mpr ⟨j + 1, (mem_bitsAt g 0 _).mpr ⟨j, by omega, hj⟩, rfl⟩
  obtain ⟨w, hw, hx⟩ := List.mem_flatten.mp this
  obtain ⟨J, hJ⟩ := List.getElem?_of_mem hw
  obtain ⟨I, hI⟩ := List.getElem?_of_mem hx
  exact ⟨J, I, w, hJ, hI⟩
theorem Good.nodup (h : Good g es) : ((inpW es).flatten).Nodup := by
  rw [h.bi]
  refine List.Pairwise.map _ ?_ (bitsAt_sorted g 0)
  intro a b hab
  omega
theorem Good.once (h : Good g es) {J I J' I' x : Nat} {w w' : List Nat} (h1 : (inpW es)[J]? = some w) (h2 : w[I]? = some x) (h1' : (inpW es)[J']? = some w') (h2' : w'[I']? = some x) : J = J' ∧ I = I' := by
  have nd := h.nodup
  unfold List.Nodup at nd
  rw [List.pairwise_flatten] at nd
  obtain ⟨n1, n2⟩ := nd
  obtain ⟨lJ, eJ⟩ := List.getElem?_eq_some_iff.mp h1
  obtain ⟨lJ', eJ'⟩ := List.getElem?_eq_some_iff.mp h1'
  have hx := List.mem_of_getElem? h2
  have hx' := List.mem_of_getElem? h2'
  rw [List.pairwise_iff_getElem] at n2
  have hJ : J = J' := by
    rcases Nat.lt_trichotomy J J' with q | q | q
    · have := n2 J J' lJ lJ' q x (by rw [eJ]; exact hx) x (by rw [eJ']; exact hx')
      exact (this rfl).elim
    · exact q
    · have := n2 J' J lJ' lJ q x (by rw [eJ']; exact hx') x (by rw [eJ]; exact hx)
      exact (this rfl).elim
  subst hJ
  rw [h1] at h1'
  injection h1' with e
  subst e
  have nw : w.Nodup := n1 w (List.mem_of_getElem? h1)
  exact ⟨rfl, (List.getElem?_inj (List.getElem?_eq_some_iff.mp h2).1 nw).mp (h2.trans h2'.symm)⟩
end
theorem rowAt_get : ∀ (ws : List Nat) (k J : Nat), (rowAt ws k)[J]? = ws[J]?.map fun w => k / 2 ^ (ws.drop (J + 1)).sum % 2 ^ w
  | [], k, J => rfl
  | w :: l, k, 0 => rfl
  | w :: l, k, J + 1 => rowAt_get l k J
theorem bn_bits (k b : Nat) : ∀ w : Nat, bn ((List.range w).map fun i => k.testBit (b + i)) = k / 2 ^ b % 2 ^ w
  | 0 => by
    rw [Nat.pow_zero, Nat.mod_one]
    rfl
  | w + 1 => by
    rw [List.range_succ, List.map_append, bn_app, bn_bits k b w, List.length_map, List.length_range]
    show _ + 2 ^ w * ((k.testBit (b + w)).toNat + 2 * 0) = _
    rw [Nat.mul_zero, Nat.add_zero, Nat.toNat_testBit, Nat.pow_succ, Nat.mod_mul, Nat.div_div_eq_div_mul, ← Nat.pow_add]
/-- inputs' words are as wide as the inputs say -/
theorem inp_len : ∀ {es : List Entry}, (∀ e ∈ es, ∀ w, e.term = .input w → e.word.length = w) → (inpW es).map List.length = inputs es
  | [], _ => rfl
  | e :: r, h => by
    have ih := inp_len (es := r) fun x hx => h x (List.mem_cons_of_mem _ hx)
    unfold inpW inputs at ih ⊢
    rw [List.filterMap_cons, List.filterMap_cons]
    cases q : e.term with
    | input w =>
      dsimp only
      rw [List.map_cons, ih, h e (List.mem_cons_self ..) w q]
    | _ => exact ih
section
variable {am : Nat} {es : List Entry} {g : Graph} {T : List Nat} {k : Nat}
theorem TabOk.row (h : TabOk am es g g.length T) (gd : Good g es) (iw : ∀ e ∈ es, ∀ w, e.term = .input w → e.word.length = w) (hk : k < am) : (inpW es).map (wv (valT T k)) = rowAt (inputs es) k := by
  apply List.ext_getElem?
  intro J
  rw [List.getElem?_map, rowAt_get, ← inp_len iw, List.getElem?_map]
  cases e : (inpW es)[J]? with
  | none => rfl
  | some w =>
    show some (wv (valT T k) w) = some (k / 2 ^ (((inpW es).map List.length).drop (J + 1)).sum % 2 ^ w.length)
    congr 1
    rw [inp_len iw, ← bn_bits]
    unfold wv bv
    congr 1
    apply List.ext_getElem?
    intro I
    rw [List.getElem?_map, List.getElem?_map]
    cases e2 : w[I]? with
    | none =>
      have hI := List.getElem?_eq_none_iff.mp e2
      rw [List.getElem?_eq_none (by rw [List.length_range]; exact hI)]
      rfl
    | some x =>
      obtain ⟨j, rfl, hj⟩ := gd.bitOf e e2
      obtain ⟨hI, _⟩ := List.getElem?_eq_some_iff.mp e2
      rw [List.getElem?_range hI]
      show some (lv (valT T k) (2 * (j + 1))) = some (k.testBit (below es J + I))
      rw [lv_even, h.bits j (List.getElem?_eq_some_iff.mp hj).1 hj J I w e e2 k hk]
theorem TabOk.vals (h : TabOk am es g g.length T) (gd : Good g es) (iw : ∀ e ∈ es, ∀ w, e.term = .input w → e.word.length = w) (hk : k < am) : values es (rowAt (inputs es) k) = es.map fun e => wv (valT T k) e.word := by
  rw [← h.row gd iw hk]
  exact values_eq (gd.se _ (h.con hk))
theorem TabOk.value (h : TabOk am es g g.length T) (gd : Good g es) (iw : ∀ e ∈ es, ∀ w, e.term = .input w → e.word.length = w) (hk : k < am) {t : Nat} (ht : t < es.length) : (values es (rowAt (inputs es) k)).getD t 0 = wv (valT T k) (wordOf es t) := by
  rw [h.vals gd iw hk, List.getD_eq_getElem?_getD, List.getElem?_map]
  unfold wordOf
  rw [List.getElem?_eq_getElem ht]
  rfl
theorem word1 {ws : List Nat} (h : ws.length = 1) : ∃ x, ws = [x] := List.length_eq_one_iff.mp h
theorem TabOk.fits (h : TabOk am es g g.length T) (gd : Good g es) (iw : ∀ e ∈ es, ∀ w, e.term = .input w → e.word.length = w) (hk : k < am) {claims : List Nat} (hc : ∀ c ∈ claims, c < es.length ∧ widthOf es c = 1) :
    fits es claims (rowAt (inputs es) k) = claims.all fun c => lv (valT T k) (last (wordOf es c)) := by
  unfold Sm03.fits
  dsimp only
  rw [Bool.eq_iff_iff, List.all_eq_true, List.all_eq_true]
  have key : ∀ c ∈ claims, ((values es (rowAt (inputs es) k)).getD c 0 == 1) = lv (valT T k) (last (wordOf es c)) := fun c hcc => by
    obtain ⟨h1, h2⟩ := hc c hcc
    obtain ⟨x, hx⟩ := word1 h2
    rw [h.value gd iw hk h1, hx, wv_one]
    show _ = lv (valT T k) x
    cases lv (valT T k) x <;> rfl
  constructor
  · intro q c hcc; rw [← key c hcc]; exact q c hcc
  · intro q c hcc; rw [key c hcc]; exact q c hcc
end
/-- values of words by their tables -/
theorem bn_sum : ∀ (l : List Bool) (a : Nat), ((l.zipIdx a).map fun x => x.1.toNat * 2 ^ x.2).sum = 2 ^ a * bn l
  | [], a => by show 0 = 2 ^ a * 0; omega
  | b :: r, a => by
    rw [List.zipIdx_cons, List.map_cons, List.sum_cons, bn_sum r (a + 1), Nat.pow_succ]
    show b.toNat * 2 ^ a + 2 ^ a * 2 * bn r = 2 ^ a * (b.toNat + 2 * bn r)
    rw [Nat.mul_add, Nat.mul_comm b.toNat, Nat.mul_assoc]
theorem gates_count {g : Graph} {es : List Entry} (h : Good g es) (iw : ∀ e ∈ es, ∀ w, e.term = .input w → e.word.length = w) : (inputs es).sum + (g.filter fun n => n != Node.bit).length = g.length := by
  have e : (inputs es).sum = (bitsAt 0 g).length := by
    rw [← inp_len iw, ← List.length_flatten, h.bi, List.length_map]
  rw [e]
  exact bitsAt_count g 0
theorem bv_snoc_ne {val : Nat → Bool} {a b : List Nat} {x y : Nat} (h : a.length = b.length) : (bv val (a ++ [x]) != bv val (b ++ [y])) = ((bv val a != bv val b) || (lv val x ^^ lv val y)) := by
  unfold bv
  rw [List.map_append, List.map_append]
  have hl : (a.map (lv val)).length = (b.map (lv val)).length := by rw [List.length_map, List.length_map, h]
  rw [Bool.eq_iff_iff, bne_iff_ne, Bool.or_eq_true, bne_iff_ne]
  have key : (a.map (lv val) ++ [lv val x] = b.map (lv val) ++ [lv val y]) ↔ (a.map (lv val) = b.map (lv val) ∧ lv val x = lv val y) := by
    constructor
    · intro e
      obtain ⟨e1, e2⟩ := List.append_inj e hl
      injection e2 with e2 _
      exact ⟨e1, e2⟩
    · rintro ⟨e1, e2⟩
      rw [e1, e2]
  show ¬ (a.map (lv val) ++ [lv val x] = b.map (lv val) ++ [lv val y]) ↔ _
  rw [key]
  by_cases e1 : a.map (lv val) = b.map (lv val)
  · simp only [e1, true_and, ne_eq, not_true_eq_false, false_or]
    cases lv val x <;> cases lv val y <;> simp
  · simp [e1]
theorem le_sum : ∀ {l : List Nat} {x : Nat}, x ∈ l → x ≤ l.sum
  | [], x, h => by cases h
  | y :: r, x, h => by
    rw [List.sum_cons]
    rcases List.mem_cons.mp h with rfl | h
    · omega
    · have := le_sum h; omega
theorem numGo_app : ∀ (ws r : List Nat) (a x y : Nat), r.length = ws.length → numGo a (ws ++ [x]) (r ++ [y]) = numGo a ws r * 2 ^ x + y
  | [], [], a, x, y, _ => rfl
  | [], _ :: _, a, x, y, h => by cases h
  | _ :: _, [], a, x, y, h => by cases h
  | w :: l, v :: r, a, x, y, h => numGo_app l r _ x y (Nat.succ.inj h)
theorem numGo_snoc {ws r : List Nat} {i x y : Nat} (hx : ws[i]? = some x) (hy : r[i]? = some y) : numGo 0 (ws.take (i + 1)) (r.take (i + 1)) = numGo 0 (ws.take i) (r.take i) * 2 ^ x + y := by
  have h1 := (List.getElem?_eq_some_iff.mp hx).1
  have h2 := (List.getElem?_eq_some_iff.mp hy).1
  rw [List.take_add_one, List.take_add_one, hx, hy]
  exact numGo_app _ _ _ _ _ (by rw [List.length_take, List.length_take]; omega)
theorem sum_take_le : ∀ (l : List Nat) (i : Nat), (l.take i).sum ≤ l.sum
  | [], i => by rw [List.take_nil]; exact Nat.le_refl _
  | x :: r, 0 => Nat.zero_le _
  | x :: r, i + 1 => by
    have := sum_take_le r i
    show (x :: r.take i).sum ≤ _
    rw [List.sum_cons, List.sum_cons]
    omega
theorem zip_take_mem {ws r : List Nat} {i : Nat} {x : Nat × Nat} (h : x ∈ (r.take i).zip (ws.take i)) : x ∈ r.zip ws := by
  rw [List.zip_eq_zipWith, ← List.take_zipWith] at h
  rw [List.zip_eq_zipWith]
  exact List.mem_of_mem_take h
theorem numGo_lt {ws r : List Nat} (hl : r.length = ws.length) (hv : ∀ x ∈ r.zip ws, x.1 < 2 ^ x.2) (i : Nat) : numGo 0 (ws.take i) (r.take i) < 2 ^ ws.sum := by
  obtain ⟨k, h1, h2, _⟩ := numGo_eq (ws.take i) (r.take i) 0 (by rw [List.length_take, List.length_take, hl]) fun x hx => hv x (zip_take_mem hx)
  rw [h2, Nat.zero_mul, Nat.zero_add]
  exact Nat.lt_of_lt_of_le h1 (Nat.pow_le_pow_right (by decide) (sum_take_le ws i))
end BS

set_option Elab.async false
set_option linter.all false
namespace BS
open Sm03
/-! ### the needed nodes, by marks -/
def at_ (B : List Bool) (m : Nat) : Bool := B.getD m false
theorem at_set {B : List Bool} {j m : Nat} (h : j < B.length) : at_ (B.set j true) m = (decide (m = j) || at_ B m) := by
  unfold at_
  rw [List.getD_eq_getElem?_getD, List.getD_eq_getElem?_getD, List.getElem?_set]
  by_cases e : j = m
  · subst e
    rw [if_pos rfl, if_pos h]
    simp
  · rw [if_neg e, decide_eq_false (fun z => e z.symm)]
    rfl
/-- the marks of those that were named -/
structure Marks (size : Nat) (B : List Bool) (need : List Nat) : Prop where
  len : B.length = size + 1
  eq : ∀ m, m ≤ size → at_ B m = need.contains m
theorem Marks.start (size : Nat) : Marks size (List.replicate (size + 1) false) [] := by
  refine ⟨List.length_replicate, fun m hm => ?_⟩
  unfold at_
  rw [List.getD_eq_getElem?_getD, List.getElem?_replicate]
  split <;> rfl
theorem Marks.put {size : Nat} {B : List Bool} {need : List Nat} (h : Marks size B need) {j : Nat} (hj : j ≤ size) : Marks size (B.set j true) (j :: need) := by
  have hl := h.len
  refine ⟨by rw [List.length_set]; exact hl, fun m hm => ?_⟩
  rw [at_set (by omega), h.eq m hm, List.contains_cons]
  by_cases e : m = j
  · subst e; simp
  · simp [e]
theorem Marks.perm {size : Nat} {B : List Bool} {need need' : List Nat} (h : Marks size B need) (e : ∀ m, need.contains m = need'.contains m) : Marks size B need' := ⟨h.len, fun m hm => (h.eq m hm).trans (e m)⟩
/-- the marked ones above n -/
def above (B : List Bool) (n c : Nat) : List Nat := ((List.range c).map fun i => n + 1 + i).filter (at_ B)
theorem above_succ (B : List Bool) (n c : Nat) : above B n (c + 1) = (if at_ B (n + 1) = true then [n + 1] else []) ++ above B (n + 1) c := by
  unfold above
  rw [List.range_succ_eq_map, List.map_cons, List.map_map]
  have e : (List.range c).map ((fun i => n + 1 + i) ∘ Nat.succ) = (List.range c).map fun i => n + 1 + 1 + i := List.map_congr_left fun i _ => by show n + 1 + (i + 1) = _; omega
  rw [e, Nat.add_zero]
  by_cases h : at_ B (n + 1) = true
  · rw [List.filter_cons_of_pos h, if_pos h]; rfl
  · rw [List.filter_cons_of_neg h, if_neg h]; rfl
theorem above_congr {B B' : List Bool} {n : Nat} (c : Nat) (h : ∀ m, n < m → at_ B m = at_ B' m) : above B n c = above B' n c := by
  unfold above
  refine List.filter_congr fun m hm => ?_
  obtain ⟨i, _, rfl⟩ := List.mem_map.mp hm
  exact h _ (by omega)
structure ConeI (g : Graph) (C : List Nat) (n : Nat) (B : List Bool) : Prop where
  le : n ≤ g.length
  ex : ∃ need, Marks g.length B need ∧ C = coneOf g n need ++ above B n (g.length - n)
theorem ConeI.start {g : Graph} {B : List Bool} {need : List Nat} (h : Marks g.length B need) : ConeI g (coneOf g g.length need) g.length B :=
  ⟨Nat.le_refl _, need, h, by rw [Nat.sub_self]; exact (List.append_nil _).symm⟩
section
variable {g : Graph} {C : List Nat} {n : Nat} {B : List Bool}
theorem ConeI.skip (h : ConeI g C (n + 1) B) (hb : at_ B (n + 1) = false ∨ g[n]? = some Node.bit) : ConeI g C n B := by
  have hle := h.le
  obtain ⟨need, hm, e⟩ := h.ex
  refine ⟨by omega, need, hm, ?_⟩
  have es : g.length - n = (g.length - (n + 1)) + 1 := by omega
  rw [es, above_succ]
  have c1 : need.contains (n + 1) = at_ B (n + 1) := (hm.eq (n + 1) hle).symm
  rw [e]
  conv => lhs; unfold coneOf
  by_cases hf : at_ B (n + 1) = false
  · rw [c1, if_pos hf, if_neg (by rw [hf]; exact Bool.false_ne_true)]
    rfl
  · have ht : at_ B (n + 1) = true := by cases q : at_ B (n + 1) with | true => rfl | false => exact (hf q).elim
    have hg := hb.resolve_left hf
    rw [c1, if_neg hf, if_pos ht, hg]
    dsimp only
    rw [List.append_assoc]
theorem ConeI.gate (h : ConeI g C (n + 1) B) (ea : Earlier g) (ht : at_ B (n + 1) = true) {a b : Nat} (hg : g[n]? = some (Node.gate a b)) : ConeI g C n ((B.set (a / 2) true).set (b / 2) true) := by
  have hle := h.le
  obtain ⟨need, hm, e⟩ := h.ex
  obtain ⟨e1, e2, e3⟩ := ea n a b hg
  have m2 := (hm.put (j := a / 2) (by omega)).put (j := b / 2) (by omega)
  have hl := hm.len
  refine ⟨by omega, a / 2 :: b / 2 :: need, m2.perm fun m => ?_, ?_⟩
  · rw [List.contains_cons, List.contains_cons, List.contains_cons, List.contains_cons]
    cases (m == b / 2) <;> cases (m == a / 2) <;> rfl
  have es : g.length - n = (g.length - (n + 1)) + 1 := by omega
  have un : ∀ m, n < m → at_ B m = at_ ((B.set (a / 2) true).set (b / 2) true) m := fun m hmn => by
    rw [at_set (by rw [List.length_set]; omega), at_set (by omega), decide_eq_false (by omega), decide_eq_false (by omega)]
    rfl
  have c1 : need.contains (n + 1) = at_ B (n + 1) := (hm.eq (n + 1) hle).symm
  rw [es, above_succ, ← un (n + 1) (by omega), if_pos ht, ← above_congr _ (fun m hmn => un m (by omega)), e]
  conv => lhs; unfold coneOf
  rw [c1, if_neg (by rw [ht]; exact Bool.noConfusion), hg]
  dsimp only
  rw [List.append_assoc]
theorem ConeI.fin (h : ConeI g C 0 B) : C = ((List.range g.length).map fun i => 1 + i).filter (at_ B) := by
  obtain ⟨need, hm, e⟩ := h.ex
  rw [e]
  show [] ++ above B 0 (g.length - 0) = _
  rw [List.nil_append, Nat.sub_zero]
  unfold above
  rw [Nat.zero_add]
end
/-! ### what the needed nodes are closed under -/
theorem cone_mem {g : Graph} : ∀ (n : Nat) (need : List Nat) (m : Nat), m ∈ coneOf g n need → 1 ≤ m ∧ m ≤ n
  | 0, _, m, h => by cases h
  | n + 1, need, m, h => by
    unfold coneOf at h
    split at h
    · have := cone_mem n need m h; omega
    · split at h
      · rcases List.mem_append.mp h with h | h
        · have := cone_mem n _ m h; omega
        · rw [List.mem_singleton] at h; omega
      · rcases List.mem_append.mp h with h | h
        · have := cone_mem n _ m h; omega
        · rw [List.mem_singleton] at h; omega
theorem cone_need {g : Graph} : ∀ (n : Nat) (need : List Nat) (m : Nat), 1 ≤ m → m ≤ n → m ∈ need → m ∈ coneOf g n need
  | 0, _, m, h1, h2, _ => by omega
  | n + 1, need, m, h1, h2, h3 => by
    unfold coneOf
    by_cases e : m = n + 1
    · subst e
      rw [if_neg (by rw [List.contains_iff_mem.mpr h3]; exact Bool.noConfusion)]
      split <;> exact List.mem_append.mpr (.inr (List.mem_singleton.mpr rfl))
    · split
      · exact cone_need n need m h1 (by omega) h3
      · split
        · exact List.mem_append.mpr (.inl (cone_need n _ m h1 (by omega) (List.mem_cons_of_mem _ (List.mem_cons_of_mem _ h3))))
        · exact List.mem_append.mpr (.inl (cone_need n _ m h1 (by omega) h3))
theorem cone_gate {g : Graph} (ea : Earlier g) : ∀ (n : Nat) (need : List Nat) (m a b : Nat), m ∈ coneOf g n need → g[m - 1]? = some (Node.gate a b) → a / 2 ∈ coneOf g n need ∧ b / 2 ∈ coneOf g n need
  | 0, _, m, a, b, h, _ => by cases h
  | n + 1, need, m, a, b, h, hg => by
    have hm := cone_mem _ _ _ h
    obtain ⟨e1, e2, e3⟩ := ea (m - 1) a b hg
    unfold coneOf at h ⊢
    split
    · rename_i hc
      rw [if_pos hc] at h
      exact cone_gate ea n need m a b h hg
    · rename_i hc
      rw [if_neg hc] at h
      by_cases e : m = n + 1
      · subst e
        rw [show n + 1 - 1 = n by omega] at hg e3
        rw [hg]
        dsimp only
        exact ⟨List.mem_append.mpr (.inl (cone_need n _ _ (by omega) (by omega) (List.mem_cons_self ..))), List.mem_append.mpr (.inl (cone_need n _ _ (by omega) (by omega) (List.mem_cons_of_mem _ (List.mem_cons_self ..))))⟩
      · split at h
        · rename_i c d hq
          rcases List.mem_append.mp h with h | h
          · obtain ⟨i1, i2⟩ := cone_gate ea n _ m a b h hg
            exact ⟨List.mem_append.mpr (.inl i1), List.mem_append.mpr (.inl i2)⟩
          · rw [List.mem_singleton] at h; omega
        · rename_i hq
          rcases List.mem_append.mp h with h | h
          · obtain ⟨i1, i2⟩ := cone_gate ea n _ m a b h hg
            exact ⟨List.mem_append.mpr (.inl i1), List.mem_append.mpr (.inl i2)⟩
          · rw [List.mem_singleton] at h; omega
theorem sign_not (l : Nat) : sign (not_ l) = - sign l := by
  unfold sign not_
  by_cases h : l % 2 = 0
  · rw [if_pos h, if_neg (by omega), if_pos h, show (l + 1) / 2 = l / 2 by omega]
    omega
  · rw [if_neg h, if_pos (by omega), if_neg h, show (l - 1) / 2 = l / 2 by omega]
    omega
theorem sign_abs (l : Nat) : (sign l).natAbs = l / 2 := by
  unfold sign
  split <;> omega
theorem sign_ne {l : Nat} (h : 2 ≤ l) : sign l ≠ 0 := by
  unfold sign
  split <;> omega
/-- every literal of a clause is of a needed node -/
theorem clause_in {g : Graph} {es : List Entry} {claims : List Nat} (ea : Earlier g) (hc : ∀ c ∈ claims, Lit g (last (wordOf es c))) : ∀ c ∈ clauses g es claims, ∀ x ∈ c, x ≠ 0 ∧ x.natAbs ∈ cone g es claims := by
  intro c h x hx
  rcases List.mem_append.mp h with h | h
  · obtain ⟨n, hn, hcn⟩ := List.mem_flatMap.mp h
    have hm := cone_mem _ _ _ hn
    unfold gateClauses at hcn
    split at hcn
    · rename_i a b hg
      obtain ⟨i1, i2⟩ := cone_gate ea _ _ n a b hn hg
      obtain ⟨e1, e2, e3⟩ := ea (n - 1) a b hg
      have na : ((0 : Int) - (n : Int)).natAbs = n := by omega
      have nb : ((n : Int)).natAbs = n := by omega
      have s1 := sign_ne (l := a) e1
      have s2 := sign_ne (l := b) (by omega)
      have t1 : (- sign a) ≠ 0 := by omega
      have t2 : (- sign b) ≠ 0 := by omega
      have u1 := sign_abs a
      have u2 := sign_abs b
      rw [sign_not, sign_not] at hcn
      simp only [List.mem_cons, List.not_mem_nil, or_false] at hcn
      rcases hcn with rfl | rfl | rfl
      · simp only [List.mem_cons, List.not_mem_nil, or_false] at hx
        rcases hx with rfl | rfl
        · exact ⟨by omega, by rw [na]; exact hn⟩
        · exact ⟨s1, by rw [u1]; exact i1⟩
      · simp only [List.mem_cons, List.not_mem_nil, or_false] at hx
        rcases hx with rfl | rfl
        · exact ⟨by omega, by rw [na]; exact hn⟩
        · exact ⟨s2, by rw [u2]; exact i2⟩
      · simp only [List.mem_cons, List.not_mem_nil, or_false] at hx
        rcases hx with rfl | rfl | rfl
        · exact ⟨by omega, by rw [nb]; exact hn⟩
        · exact ⟨t1, by rw [Int.natAbs_neg, u1]; exact i1⟩
        · exact ⟨t2, by rw [Int.natAbs_neg, u2]; exact i2⟩
    · cases hcn
  · obtain ⟨l, hl, hcl⟩ := List.mem_flatMap.mp h
    unfold claimClause at hcl
    split at hcl
    · cases hcl
    · split at hcl
      · rw [List.mem_singleton] at hcl
        subst hcl
        cases hx
      · rw [List.mem_singleton] at hcl
        subst hcl
        rw [List.mem_singleton] at hx
        subst hx
        refine ⟨sign_ne (by omega), ?_⟩
        rw [sign_abs]
        obtain ⟨k, hk, rfl⟩ := List.mem_map.mp hl
        have hlit := hc k hk
        unfold Lit at hlit
        exact cone_need _ _ _ (by omega) (by omega) (List.mem_map.mpr ⟨_, hl, rfl⟩)
/-! ### what's told of the needed nodes -/
def look : List Nat → List Nat → Nat → Option Nat
  | n :: ns, v :: vs, m => if n = m then some v else look ns vs m
  | _, _, _ => none
theorem look_valAt : ∀ (ns vs : List Nat) (m : Nat), ns.length = vs.length → valAt ns vs m = ((look ns vs m).getD 0 == 1)
  | [], [], m, _ => rfl
  | [], _ :: _, m, h => by cases h
  | _ :: _, [], m, h => by cases h
  | n :: ns, v :: vs, m, h => by
    have ih := look_valAt ns vs m (Nat.succ.inj h)
    show valAt (n :: ns) (v :: vs) m = ((if n = m then some v else look ns vs m).getD 0 == 1)
    unfold valAt at *
    rw [List.findIdx?_cons]
    by_cases e : n = m
    · subst e
      rw [if_pos rfl, beq_self_eq_true, if_pos rfl]
      rfl
    · rw [if_neg e, if_neg (by rw [beq_eq_false_iff_ne.mpr e]; exact Bool.false_ne_true), ← ih]
      cases ns.findIdx? fun x => x == m with
      | none => rfl
      | some i => rfl
theorem look_in : ∀ (ns vs : List Nat) (m : Nat), ns.length = vs.length → m ∈ ns → ∃ v, look ns vs m = some v
  | [], _, m, _, hm => by cases hm
  | _ :: _, [], m, h, _ => by cases h
  | n :: ns, v :: vs, m, h, hm => by
    unfold look
    by_cases e : n = m
    · rw [if_pos e]; exact ⟨v, rfl⟩
    · rw [if_neg e]
      exact look_in ns vs m (Nat.succ.inj h) ((List.mem_cons.mp hm).resolve_left fun z => e z.symm)
theorem look_mem : ∀ (ns vs : List Nat) (m v : Nat), look ns vs m = some v → v ∈ vs
  | [], _, m, v, h => by unfold look at h; cases h
  | _ :: _, [], m, v, h => by unfold look at h; cases h
  | n :: ns, x :: vs, m, v, h => by
    unfold look at h
    by_cases e : n = m
    · rw [if_pos e] at h
      injection h with h
      subst h
      exact List.mem_cons_self ..
    · rw [if_neg e] at h
      exact List.mem_cons_of_mem _ (look_mem ns vs m v h)
/-- one literal, asked as the program does -/
theorem lit_told {ns vs : List Nat} {x : Int} {v : Nat} (hl : ns.length = vs.length) (hx : x ≠ 0) (hv : look ns vs x.natAbs = some v) : (decide (x > 0) == decide (v = 1)) = (if x < 0 then !valAt ns vs x.natAbs else valAt ns vs x.natAbs) := by
  rw [look_valAt ns vs _ hl, hv]
  show _ = if x < 0 then !(v == 1) else (v == 1)
  have e : (v == 1) = decide (v = 1) := rfl
  rw [e]
  by_cases h : x < 0
  · rw [if_pos h, decide_eq_false (by omega : ¬ x > 0)]
    cases decide (v = 1) <;> rfl
  · rw [if_neg h, decide_eq_true (by omega : x > 0)]
    cases decide (v = 1) <;> rfl
theorem num_bn (val : Nat → Bool) : ∀ ws : List Nat, numberOf val ws = bn (ws.map fun l => val (l / 2))
  | [] => rfl
  | l :: r => by
    show flag (val (l / 2)) + 2 * numberOf val r = (val (l / 2)).toNat + 2 * bn _
    rw [num_bn val r, flag_dec]
theorem back_eq (val : Nat → Bool) : ∀ es : List Entry, back es val = (inpW es).map (numberOf val)
  | [] => rfl
  | e :: r => by
    have ih := back_eq val r
    unfold back inpW at ih ⊢
    rw [List.filterMap_cons, List.filterMap_cons]
    cases q : e.term with
    | input w => dsimp only; rw [List.map_cons, ih]
    | _ => exact ih
end BS

set_option Elab.async false
set_option linter.all false
namespace BS
open Sm03
/-! ### asked over all worlds -/
section
variable {ws : List Nat} {P : List Nat → Bool} {F : Nat}
def hits (ws : List Nat) (F : Nat) : List Nat := (List.range (2 ^ ws.sum)).filter fun k => F.testBit k
theorem hits_lt {k : Nat} (h : k ∈ hits ws F) : k < 2 ^ ws.sum := List.mem_range.mp (List.mem_filter.mp h).1
theorem hits_len : (hits ws F).length ≤ 2 ^ ws.sum := by
  have := List.length_filter_le (fun k => F.testBit k) (List.range (2 ^ ws.sum))
  rw [List.length_range] at this
  exact this
theorem hits_of (h : ∀ k, k < 2 ^ ws.sum → F.testBit k = P (rowAt ws k)) : (List.range (2 ^ ws.sum)).filter (P ∘ rowAt ws) = hits ws F :=
  List.filter_congr fun k hk => (h k (List.mem_range.mp hk)).symm
theorem find_rows (h : ∀ k, k < 2 ^ ws.sum → F.testBit k = P (rowAt ws k)) : (rowsOf ws).find? P = (hits ws F).head?.map (rowAt ws) := by
  rw [rows_eq, List.find?_map, ← hits_of h, List.head?_filter]
theorem filter_rows (h : ∀ k, k < 2 ^ ws.sum → F.testBit k = P (rowAt ws k)) : (rowsOf ws).filter P = (hits ws F).map (rowAt ws) := by
  rw [rows_eq, List.filter_map, hits_of h]
end
theorem foldl_min : ∀ (r : List Nat) (x : Nat), (r.foldl min x ∈ x :: r) ∧ ∀ y ∈ x :: r, r.foldl min x ≤ y
  | [], x => ⟨List.mem_cons_self .., fun y hy => by rw [List.mem_singleton] at hy; rw [hy]; exact Nat.le_refl _⟩
  | z :: r, x => by
    obtain ⟨h1, h2⟩ := foldl_min r (min x z)
    show r.foldl min (min x z) ∈ _ ∧ ∀ y ∈ _, r.foldl min (min x z) ≤ y
    have h3 := h2 (min x z) (List.mem_cons_self ..)
    refine ⟨?_, fun y hy => ?_⟩
    · rcases List.mem_cons.mp h1 with e | h
      · rw [e]
        by_cases q : x ≤ z
        · rw [Nat.min_eq_left q]; exact List.mem_cons_self ..
        · rw [Nat.min_eq_right (by omega)]; exact List.mem_cons_of_mem _ (List.mem_cons_self ..)
      · exact List.mem_cons_of_mem _ (List.mem_cons_of_mem _ h)
    · rcases List.mem_cons.mp hy with e | h
      · subst e; omega
      · rcases List.mem_cons.mp h with e | h
        · subst e; omega
        · exact h2 y (List.mem_cons_of_mem _ h)
theorem foldl_max : ∀ (r : List Nat) (x : Nat), (r.foldl max x ∈ x :: r) ∧ ∀ y ∈ x :: r, y ≤ r.foldl max x
  | [], x => ⟨List.mem_cons_self .., fun y hy => by rw [List.mem_singleton] at hy; rw [hy]; exact Nat.le_refl _⟩
  | z :: r, x => by
    obtain ⟨h1, h2⟩ := foldl_max r (max x z)
    show r.foldl max (max x z) ∈ _ ∧ ∀ y ∈ _, y ≤ r.foldl max (max x z)
    have h3 := h2 (max x z) (List.mem_cons_self ..)
    refine ⟨?_, fun y hy => ?_⟩
    · rcases List.mem_cons.mp h1 with e | h
      · rw [e]
        by_cases q : x ≤ z
        · rw [Nat.max_eq_right q]; exact List.mem_cons_of_mem _ (List.mem_cons_self ..)
        · rw [Nat.max_eq_left (by omega)]; exact List.mem_cons_self ..
      · exact List.mem_cons_of_mem _ (List.mem_cons_of_mem _ h)
    · rcases List.mem_cons.mp hy with e | h
      · subst e; omega
      · rcases List.mem_cons.mp h with e | h
        · subst e; omega
        · exact h2 y (List.mem_cons_of_mem _ h)
theorem least_is {r : List Nat} {x : Nat} {m : Int} (h1 : m ∈ (x :: r).map fun (y : Nat) => (y : Int)) (h2 : ∀ y ∈ (x :: r).map fun (y : Nat) => (y : Int), m ≤ y) : m = ((r.foldl min x : Nat) : Int) := by
  obtain ⟨a, ha, rfl⟩ := List.mem_map.mp h1
  obtain ⟨f1, f2⟩ := foldl_min r x
  have := f2 a ha
  have := h2 _ (List.mem_map.mpr ⟨_, f1, rfl⟩)
  omega
theorem most_is {r : List Nat} {x : Nat} {m : Int} (h1 : m ∈ (x :: r).map fun (y : Nat) => (y : Int)) (h2 : ∀ y ∈ (x :: r).map fun (y : Nat) => (y : Int), y ≤ m) : m = ((r.foldl max x : Nat) : Int) := by
  obtain ⟨a, ha, rfl⟩ := List.mem_map.mp h1
  obtain ⟨f1, f2⟩ := foldl_max r x
  have := f2 a ha
  have := h2 _ (List.mem_map.mpr ⟨_, f1, rfl⟩)
  omega
theorem wv_wh {am : Nat} {T : List Nat} {k : Nat} (hk : k < am) (word : List Nat) : bn ((word.map (wh am T)).map fun t => t.testBit k) = wv (valT T k) word := by
  unfold wv bv
  rw [List.map_map]
  congr 1
  exact List.map_congr_left fun l _ => wh_bit hk
theorem wv_ne {val : Nat → Bool} {a b : List Nat} (h : a.length = b.length) : (wv val a != wv val b) = (bv val a != bv val b) := by
  rw [Bool.eq_iff_iff, bne_iff_ne, bne_iff_ne]
  unfold wv
  constructor
  · intro q e; exact q (by rw [e])
  · intro q e
    refine q (bn_inj ?_ e)
    unfold bv
    rw [List.length_map, List.length_map, h]
theorem flag_toNat (b : Bool) : flag b = b.toNat := by cases b <;> rfl
theorem look_zip : ∀ (ns vs : List Nat) (m : Nat), look ns vs m = none → ns.length = vs.length → m ∉ ns
  | [], _, m, _, _ => fun h => by cases h
  | _ :: _, [], m, _, h => by cases h
  | n :: ns, v :: vs, m, h, hl => by
    unfold look at h
    by_cases e : n = m
    · rw [if_pos e] at h; cases h
    · rw [if_neg e] at h
      intro hm
      rcases List.mem_cons.mp hm with q | q
      · exact e q.symm
      · exact look_zip ns vs m h (Nat.succ.inj hl) q
theorem cone_sorted {g : Graph} : ∀ (n : Nat) (need : List Nat), (coneOf g n need).Pairwise (· < ·)
  | 0, _ => List.Pairwise.nil
  | n + 1, need => by
    unfold coneOf
    split
    · exact cone_sorted n need
    · split
      · refine List.pairwise_append.mpr ⟨cone_sorted n _, List.pairwise_singleton _ _, fun x hx y hy => ?_⟩
        have := cone_mem _ _ _ hx
        rw [List.mem_singleton] at hy
        omega
      · refine List.pairwise_append.mpr ⟨cone_sorted n _, List.pairwise_singleton _ _, fun x hx y hy => ?_⟩
        have := cone_mem _ _ _ hx
        rw [List.mem_singleton] at hy
        omega
theorem cone_len {g : Graph} : ∀ (n : Nat) (need : List Nat), (coneOf g n need).length ≤ n
  | 0, _ => Nat.le_refl _
  | n + 1, need => by
    unfold coneOf
    split
    · exact Nat.le_succ_of_le (cone_len n need)
    · split
      · rw [List.length_append]; exact Nat.succ_le_succ (cone_len n _)
      · rw [List.length_append]; exact Nat.succ_le_succ (cone_len n _)
theorem gateC_len (g : Graph) (n : Nat) : (gateClauses g n).length ≤ 3 := by
  unfold gateClauses
  split
  · exact Nat.le_refl _
  · exact Nat.zero_le _
theorem claimC_len (l : Nat) : (claimClause l).length ≤ 1 := by
  unfold claimClause
  split
  · exact Nat.zero_le _
  · split <;> exact Nat.le_refl _
theorem flat_len {α β : Type} {f : α → List β} {c : Nat} (h : ∀ x, (f x).length ≤ c) : ∀ l : List α, (l.flatMap f).length ≤ c * l.length
  | [] => Nat.zero_le _
  | x :: r => by
    rw [List.flatMap_cons, List.length_append, List.length_cons, Nat.mul_succ]
    have := h x
    have := flat_len h r
    omega
theorem clauses_len {g : Graph} {es : List Entry} {claims : List Nat} : (clauses g es claims).length ≤ 3 * g.length + claims.length := by
  unfold clauses
  rw [List.length_append]
  have h1 := flat_len (gateC_len g) (cone g es claims)
  have h2 := flat_len claimC_len (claimed es claims)
  have h3 : (cone g es claims).length ≤ g.length := cone_len _ _
  have h4 : (claimed es claims).length = claims.length := List.length_map ..
  omega
/-- each clause has at most three literals -/
theorem clause_few {g : Graph} {es : List Entry} {claims : List Nat} : ∀ c ∈ clauses g es claims, c.length ≤ 3 := by
  intro c h
  rcases List.mem_append.mp h with h | h
  · obtain ⟨n, _, hcn⟩ := List.mem_flatMap.mp h
    unfold gateClauses at hcn
    split at hcn
    · simp only [List.mem_cons, List.not_mem_nil, or_false] at hcn
      rcases hcn with rfl | rfl | rfl
      · show 2 ≤ 3; decide
      · show 2 ≤ 3; decide
      · show 3 ≤ 3; decide
    · cases hcn
  · obtain ⟨l, _, hcl⟩ := List.mem_flatMap.mp h
    unfold claimClause at hcl
    split at hcl
    · cases hcl
    · split at hcl
      · rw [List.mem_singleton] at hcl; rw [hcl]; decide
      · rw [List.mem_singleton] at hcl; rw [hcl]; show 1 ≤ 3; decide
end BS

set_option Elab.async false
set_option linter.all false
set_option maxRecDepth 100000
set_option maxHeartbeats 2000000
namespace BC
open PySem PySem.Spec PyProof.Rows L2
def top (i : Nat) : Stmt := PySem.Challenge.pw_bitclauses_s01_answers.main.body.getD i (.Pass ⟨0, 0, 0, 0⟩)
/-! ### the graph of gates and the dict of its gates -/
abbrev Graph := Sm03.Graph
def kk (a b : Nat) : List Key := [Sum.inl (a : Int), Sum.inl (b : Int)]
def knV : Nat → Graph → List (List Key × V)
  | _, [] => []
  | i, .bit :: r => knV (i + 1) r
  | i, .gate a b :: r => (kk a b, .int ((2 * (i + 1) : Nat) : Int)) :: knV (i + 1) r
theorem kk_inj {a b c d : Nat} (h : kk a b = kk c d) : a = c ∧ b = d := by
  unfold kk at h
  injection h with h1 h2
  injection h2 with h2 _
  injection h1 with h1
  injection h2 with h2
  exact ⟨by omega, by omega⟩
theorem kn_find (a b : Nat) : ∀ (g : Graph) (i : Nat), valV (knV i g) (kk a b) = (g.findIdx? fun n => n == Sm03.Node.gate a b).map fun j => V.int ((2 * (i + j + 1) : Nat) : Int)
  | [], i => rfl
  | .bit :: r, i => by
    have ih := kn_find a b r (i + 1)
    have e : (Sm03.Node.bit == Sm03.Node.gate a b) = false := by rw [beq_eq_false_iff_ne]; intro h; cases h
    show valV (knV (i + 1) r) (kk a b) = _
    rw [ih, List.findIdx?_cons, e]
    simp only [Bool.false_eq_true, if_false, Option.map_map]
    congr 1
    funext j
    show V.int ((2 * (i + 1 + j + 1) : Nat) : Int) = V.int ((2 * (i + (j + 1) + 1) : Nat) : Int)
    congr 2
    omega
  | .gate c d :: r, i => by
    have ih := kn_find a b r (i + 1)
    show valV ((kk c d, V.int ((2 * (i + 1) : Nat) : Int)) :: knV (i + 1) r) (kk a b) = _
    rw [List.findIdx?_cons]
    by_cases h : c = a ∧ d = b
    · obtain ⟨rfl, rfl⟩ := h
      rw [valV_pos rfl, beq_self_eq_true]
      rfl
    · have e : (Sm03.Node.gate c d == Sm03.Node.gate a b) = false := by
        rw [beq_eq_false_iff_ne]
        intro z
        injection z with z1 z2
        exact h ⟨z1, z2⟩
      rw [valV_neg (fun z => h (kk_inj z)), e, ih]
      simp only [Bool.false_eq_true, if_false, Option.map_map]
      congr 1
      funext j
      show V.int ((2 * (i + 1 + j + 1) : Nat) : Int) = V.int ((2 * (i + (j + 1) + 1) : Nat) : Int)
      congr 2
      omega
theorem kn_app (x : Sm03.Node) : ∀ (g : Graph) (i : Nat), knV i (g ++ [x]) = knV i g ++ knV (i + g.length) [x]
  | [], i => rfl
  | .bit :: r, i => by
    show knV (i + 1) (r ++ [x]) = knV (i + 1) r ++ _
    rw [kn_app x r (i + 1)]
    congr 2
    show i + 1 + r.length = i + (r.length + 1)
    omega
  | .gate c d :: r, i => by
    show _ :: knV (i + 1) (r ++ [x]) = _ :: (knV (i + 1) r ++ _)
    rw [kn_app x r (i + 1)]
    congr 3
    show i + 1 + r.length = i + (r.length + 1)
    omega
theorem kn_len : ∀ (g : Graph) (i : Nat), (knV i g).length ≤ g.length
  | [], _ => Nat.le_refl _
  | .bit :: r, i => Nat.le_succ_of_le (kn_len r (i + 1))
  | .gate _ _ :: r, i => Nat.succ_le_succ (kn_len r (i + 1))
/-- each gate once -/
def Uniq (g : Graph) : Prop := g.Pairwise fun x y => x = y → x = .bit
theorem Uniq.snoc {g : Graph} (u : Uniq g) {a b : Nat} (h : g.findIdx? (fun n => n == Sm03.Node.gate a b) = none) : Uniq (g ++ [.gate a b]) := by
  refine List.pairwise_append.mpr ⟨u, List.pairwise_singleton _ _, fun x hx y hy e => ?_⟩
  rw [List.mem_singleton] at hy
  subst hy
  subst e
  have := (List.findIdx?_eq_none_iff.mp h) _ hx
  rw [beq_self_eq_true] at this
  cases this
theorem Uniq.bit {g : Graph} (u : Uniq g) : Uniq (g ++ [.bit]) := by
  refine List.pairwise_append.mpr ⟨u, List.pairwise_singleton _ _, fun x hx y hy e => ?_⟩
  rw [List.mem_singleton] at hy
  rw [e, hy]
theorem Uniq.left {g r : Graph} (u : Uniq (g ++ r)) : Uniq g := (List.pairwise_append.mp u).1
/-- the gate, or a new one -/
def gate_ (g : Graph) (x y : Nat) : Graph × Nat := match g.findIdx? fun n => n == Sm03.Node.gate x y with
  | some i => (g, 2 * (i + 1))
  | none => (g ++ [.gate x y], 2 * (g.length + 1))
theorem gate_some {g : Graph} {x y i : Nat} (h : (g.findIdx? fun n => n == Sm03.Node.gate x y) = some i) : gate_ g x y = (g, 2 * (i + 1)) := by unfold gate_; rw [h]
theorem gate_none {g : Graph} {x y : Nat} (h : (g.findIdx? fun n => n == Sm03.Node.gate x y) = none) : gate_ g x y = (g ++ [.gate x y], 2 * (g.length + 1)) := by unfold gate_; rw [h]
theorem and_eq (g : Graph) (a b : Nat) : Sm03.and_ g a b = if min a b = 0 then (g, 0) else if min a b = 1 then (g, max a b) else if min a b = max a b then (g, min a b) else if min a b / 2 = max a b / 2 then (g, 0) else gate_ g (min a b) (max a b) := rfl
theorem gate_len (g : Graph) (x y : Nat) : (gate_ g x y).1.length ≤ g.length + 1 := by
  unfold gate_
  split
  · exact Nat.le_succ _
  · rw [List.length_append]; exact Nat.le_refl _
theorem and_len (g : Graph) (a b : Nat) : (Sm03.and_ g a b).1.length ≤ g.length + 1 := by
  rw [and_eq]
  repeat' split
  all_goals first | exact Nat.le_succ _ | exact gate_len _ _ _
theorem or_len (g : Graph) (a b : Nat) : (Sm03.or_ g a b).1.length ≤ g.length + 1 := and_len _ _ _
theorem xor_len (g : Graph) (a b : Nat) : (Sm03.xor_ g a b).1.length ≤ g.length + 3 := by
  have h1 := and_len g a (Sm03.not_ b)
  have h2 := and_len (Sm03.and_ g a (Sm03.not_ b)).1 (Sm03.not_ a) b
  have h3 := or_len (Sm03.and_ (Sm03.and_ g a (Sm03.not_ b)).1 (Sm03.not_ a) b).1 (Sm03.and_ g a (Sm03.not_ b)).2 (Sm03.and_ (Sm03.and_ g a (Sm03.not_ b)).1 (Sm03.not_ a) b).2
  show (Sm03.or_ _ _ _).1.length ≤ _
  omega
theorem mux_len (g : Graph) (c a b : Nat) : (Sm03.mux g c a b).1.length ≤ g.length + 3 := by
  have h1 := and_len g c a
  have h2 := and_len (Sm03.and_ g c a).1 (Sm03.not_ c) b
  have h3 := or_len (Sm03.and_ (Sm03.and_ g c a).1 (Sm03.not_ c) b).1 (Sm03.and_ g c a).2 (Sm03.and_ (Sm03.and_ g c a).1 (Sm03.not_ c) b).2
  show (Sm03.or_ _ _ _).1.length ≤ _
  omega
theorem xor_one (x : Nat) : x ^^^ 1 = Sm03.not_ x := by
  have h1 : (x ^^^ 1) / 2 = x / 2 := by
    have := @Nat.xor_div_two x 1
    rw [this]
    show x / 2 ^^^ 0 = _
    rw [Nat.xor_zero]
  have h2 : (x ^^^ 1) % 2 = (x + 1) % 2 := by
    have h := @Nat.xor_mod_two_eq_one x 1
    by_cases hx : x % 2 = 1
    · have : ¬ (x ^^^ 1) % 2 = 1 := fun z => (h.mp z) ⟨fun _ => rfl, fun _ => hx⟩
      omega
    · have : (x ^^^ 1) % 2 = 1 := h.mpr fun z => hx (z.mpr rfl)
      omega
  unfold Sm03.not_
  split <;> omega
theorem not_xor (x : Nat) : Builtin.bitXor (x : Int) 1 = ((Sm03.not_ x : Nat) : Int) := by
  rw [Bits.bitXor_pp (by omega) (by omega)]
  congr 1
  exact xor_one x
end BC

set_option Elab.async false
set_option linter.all false
set_option maxRecDepth 100000
set_option maxHeartbeats 2000000
namespace BC
open PySem PySem.Spec PyProof.Rows L2
/-! ### defs and methods, packed -/
section
variable (P : Program) (w : World) (K : PySem.W.Frag) (mg : Str → Option Value) (base : Heap)
structure DF (k : Nat) (x : Str) (sp : Sp) : Prop where
  ex : ∃ (f : Addr) (fd : FuncData) (ps : List Str), mg x = some (.ref f) ∧ PySem.W.keepIn K (.ref f) = true ∧ Binds K fd ps [] ∧ FnOk P w K mg base CX0 k f fd ps sp
structure DM (C : Addr) (k : Nat) (m : Str) (sp : Sp) : Prop where
  ex : ∃ (f : Addr) (fd : FuncData) (ps : List Str), Cls K C ∧ Meth K C m f ∧ Binds K fd ps [] ∧ FnOk P w K mg base CX0 k f fd ps sp
end
/-- a whole number of the top -/
def GI (mg : Str → Option Value) (x : Str) (i : Int) : Prop := ∃ t, mg x = some (.int i t)
section
variable {X : Cx} {k : Nat} {C : Addr} {x m : Str} {sp : Sp} {p pos apos : Pos} {e o : Expr} {es : List Expr} {t : TA} {ta : TE}
theorem pe_gi {i : Int} (h : GI X.mg x i) (hg : Gl X x := by rfl) (hd : (x == ("__debug__" : Str)) = false := by decide) : PE X (.Name x pos) (tC (.int i)) := by
  obtain ⟨t, h⟩ := h
  exact pe_glob hg h ⟨_, rfl⟩ hd
theorem pe_df (D : DF X.prog X.w X.K X.mg X.base k x sp) (hr : Room k X.A) (ha : PA X (e :: es) t) (hg : Gl X x := by rfl)
    (hdb : (x == ("__debug__" : Str)) = false := by decide) (he : starEach (e :: es) X.env = (false, eval e X.env) :: starEach es X.env := by rfl) (hpl : (backTo pos (starEach es X.env)).any (·.1) = false := by rfl) :
    PE X (.Call (.Name x p) (e :: es) [] pos) (tCall sp [] E0 t) := by
  obtain ⟨f, fd, ps, hm, hk, hb, F⟩ := D.ex
  exact pe_call F hr hg hm hk hb .nil pass0 ha hdb he hpl
theorem pe_dm {pl : Sem Bool} (he : PE X o ta) (D : DM X.prog X.w X.K X.mg X.base C k m sp) (hr : Room k X.A) (ha : PA X (e :: es) t)
    (hst : starEach (e :: es) X.env = (false, eval e X.env) :: starEach es X.env := by rfl) (hpl : (backTo pos (starEach es X.env)).any (·.1) = false := by rfl)
    (ht : eval (.Call (.Attribute o m apos) (e :: es) [] pos) X.env = (do
      let ov ← eval o X.env
      standAt apos.atName
      let (f, first) ← holding [ov] (getMethod ov m pl)
      callWith pos f first (backTo pos (starEach (e :: es) X.env)) (backToKw pos (keywordEach [] X.env))) := by rfl) :
    PE X (.Call (.Attribute o m apos) (e :: es) [] pos) (tMeth C m sp [] E0 ta t) := by
  obtain ⟨f, fd, ps, hc, hm, hb, F⟩ := D.ex
  exact pe_meth (pl := pl) he hc hm F hr hb .nil pass0 ha hst hpl ht
theorem pe_dm0 {pl : Sem Bool} (he : PE X o ta) (D : DM X.prog X.w X.K X.mg X.base C k m sp) (hr : Room k X.A)
    (ht : eval (.Call (.Attribute o m apos) [] [] pos) X.env = (do
      let ov ← eval o X.env
      standAt apos.atName
      let (f, first) ← holding [ov] (getMethod ov m pl)
      callWith pos f first (backTo pos (starEach [] X.env)) (backToKw pos (keywordEach [] X.env))) := by rfl) :
    PE X (.Call (.Attribute o m apos) [] [] pos) (tMeth C m sp [] E0 ta tNil) := by
  obtain ⟨f, fd, ps, hc, hm, hb, F⟩ := D.ex
  exact pe_meth0 (pl := pl) he hc hm F hr hb .nil pass0 ht
end
/-! ### the gates in the heap -/
theorem lk_here {k : Str} {v : V} {r : List (Str × V)} : List.lookup k ((k, v) :: r) = some v := by
  have e : (k == k) = true := beq_self_eq_true k
  simp only [List.lookup, e]
theorem lk_past {k g : Str} {v : V} {r : List (Str × V)} (h : (k == g) = false) : List.lookup k ((g, v) :: r) = List.lookup k r := by
  simp only [List.lookup, h]
theorem if_true_of {c : Bool} {A B : Prop} (hc : c = true) (h : A) : if c = true then A else B := by
  rw [if_pos hc]
  exact h
theorem if_false_of {c : Bool} {A B : Prop} (hc : c = false) (h : B) : if c = true then A else B := by
  rw [hc, if_neg Bool.false_ne_true]
  exact h
/-- all but n and k stands -/
def Kp (n k : Addr) (H H' : Hp) : Prop := ∀ b o, H b = some o → b ≠ n → b ≠ k → H' b = some o
theorem Kp.refl {n k : Addr} {H : Hp} : Kp n k H H := fun _ _ h _ _ => h
theorem Kp.trans {n k : Addr} {H H1 H2 : Hp} (a : Kp n k H H1) (b : Kp n k H1 H2) : Kp n k H H2 := fun c o h h1 h2 => b c o (a c o h h1 h2) h1 h2
theorem kp_of {n k : Addr} {H H' : Hp} (h : Same H H') : Kp n k H H' := fun b o e _ _ => h b o e
theorem same_upd {H : Hp} {p : Addr} {o : HO} (h : H p = none) : Same H (upd H p o) := fun b x e => by
  rw [upd_ne (ne_of_none e h)]
  exact e
inductive Nds (H : Hp) : List V → Graph → Prop
  | nil : Nds H [] []
  | bit {vs : List V} {g : Graph} (t : Nds H vs g) : Nds H (.non :: vs) (.bit :: g)
  | gate {vs : List V} {g : Graph} {p : Addr} {a b : Nat} (e : H p = some (.tup [.int a, .int b])) (t : Nds H vs g) : Nds H (.ref p :: vs) (.gate a b :: g)
theorem Nds.len {H : Hp} {vs : List V} {g : Graph} (h : Nds H vs g) : vs.length = g.length := by
  induction h with
  | nil => rfl
  | bit _ ih => exact congrArg Nat.succ ih
  | gate _ _ ih => exact congrArg Nat.succ ih
theorem Nds.mono {H H' : Hp} {vs : List V} {g : Graph} (h : Nds H vs g) (k : ∀ p xs, H p = some (.tup xs) → H' p = some (.tup xs)) : Nds H' vs g := by
  induction h with
  | nil => exact .nil
  | bit _ ih => exact .bit ih
  | gate e _ ih => exact .gate (k _ _ e) ih
theorem Nds.snoc {H : Hp} {vs ws : List V} {g r : Graph} (h : Nds H vs g) (t : Nds H ws r) : Nds H (vs ++ ws) (g ++ r) := by
  induction h with
  | nil => exact t
  | bit _ ih => exact .bit ih
  | gate e _ ih => exact .gate e ih
def gF (n k : Addr) : List (Str × V) := [("nodes", .ref n), ("known", .ref k)]
theorem gF_nodes (n k : Addr) : (gF n k).lookup ("nodes" : Str) = some (.ref n) := lk_here
theorem gF_known (n k : Addr) : (gF n k).lookup ("known" : Str) = some (.ref k) := (lk_past (by decide +kernel)).trans lk_here
structure GAt (CG ga n k : Addr) (H : Hp) (g : Graph) : Prop where
  ins : ∃ dx, H ga = some (.ins CG dx (gF n k))
  nodes : ∃ vs, H n = some (.lst vs) ∧ Nds H vs g
  known : H k = some (.dT (knV 0 g))
  uniq : Uniq g
section
variable {CG ga n k : Addr} {H H' : Hp} {g : Graph}
theorem GAt.mono (h : GAt CG ga n k H g) (s : Same H H') : GAt CG ga n k H' g := by
  obtain ⟨dx, h1⟩ := h.ins
  obtain ⟨vs, h2, h3⟩ := h.nodes
  exact ⟨⟨dx, s _ _ h1⟩, ⟨vs, s _ _ h2, h3.mono fun p xs e => s _ _ e⟩, s _ _ h.known, h.uniq⟩
theorem GAt.nk (h : GAt CG ga n k H g) : n ≠ k := by
  obtain ⟨vs, h2, _⟩ := h.nodes
  exact ne_of h2 h.known (by intro z; cases z)
theorem GAt.gn (h : GAt CG ga n k H g) : ga ≠ n := by
  obtain ⟨vs, h2, _⟩ := h.nodes
  obtain ⟨dx, h1⟩ := h.ins
  exact ne_of h1 h2 (by intro z; cases z)
theorem GAt.gk (h : GAt CG ga n k H g) : ga ≠ k := by
  obtain ⟨dx, h1⟩ := h.ins
  exact ne_of h1 h.known (by intro z; cases z)
end
/-- what the top has written of Gates -/
structure TGates (K : PySem.W.Frag) (CG : Addr) : Prop where
  cl : Cls K CG
  nN : NoAttr K CG "nodes"
  nK : NoAttr K CG "known"
/-- the most nodes that a promise speaks of -/
def LIM : Nat := 100000
/-! ### the promises -/
def spOpp : Sp := fun vs H Q _ => ∃ x : Nat, vs = [.int x] ∧ Q (.int (Sm03.not_ x : Nat)) H
def spSize (CG : Addr) : Sp := fun vs H Q _ => ∃ (ga n k : Addr) (g : Graph), vs = [.ref ga] ∧ GAt CG ga n k H g ∧ Q (.int (g.length : Nat)) H
def spFresh (CG : Addr) : Sp := fun vs H Q _ => ∃ (ga n k : Addr) (g : Graph), vs = [.ref ga] ∧ GAt CG ga n k H g ∧ g.length < LIM ∧
  ∀ H', GAt CG ga n k H' (g ++ [.bit]) → Kp n k H H' → Q (.int (2 * (g.length + 1) : Nat)) H'
def sp2 (CG : Addr) (c : Nat) (f : Graph → Nat → Nat → Graph × Nat) : Sp := fun vs H Q _ => ∃ (ga n k : Addr) (g : Graph) (x y : Nat), vs = [.ref ga, .int x, .int y] ∧ GAt CG ga n k H g ∧ g.length + c ≤ LIM ∧
  ∀ H', GAt CG ga n k H' (f g x y).1 → Kp n k H H' → Q (.int ((f g x y).2 : Nat)) H'
def sp3 (CG : Addr) (c : Nat) (f : Graph → Nat → Nat → Nat → Graph × Nat) : Sp := fun vs H Q _ => ∃ (ga n k : Addr) (g : Graph) (z x y : Nat), vs = [.ref ga, .int z, .int x, .int y] ∧ GAt CG ga n k H g ∧ g.length + c ≤ LIM ∧
  ∀ H', GAt CG ga n k H' (f g z x y).1 → Kp n k H H' → Q (.int ((f g z x y).2 : Nat)) H'
theorem lim_lt {n : Nat} (h : n ≤ LIM) : n < sizeLine := Nat.lt_of_le_of_lt h (by decide)
end BC

set_option Elab.async false
set_option linter.all false
set_option maxRecDepth 100000
set_option maxHeartbeats 2000000
namespace BC
open PySem PySem.Spec PyProof.Rows L2
section
variable {P : Program} {w : World} {K : PySem.W.Frag} {mg : Str → Option Value} {base : Heap} {CG CS CW : Addr} {f : Addr} {fd : FuncData}
abbrev s_opposite : Stmt := top 24
abbrev N_opposite : List Str := ["x"]
theorem sc_opposite : FnScope N_opposite ["x"] (defScope s_opposite) := ⟨rfl, rfl, rfl, by decide +kernel, rfl, by decide +kernel, by decide +kernel⟩
theorem ok_opposite (F : Fun K "opposite" "opposite" s_opposite f fd) : FnOk P w K mg base CX0 1 f fd ["x"] (spOpp) := by
  refine F.ok sc_opposite (fun vs H Q E h => ?_) (fun cdv A outer s H vs Q E hr h => ?_)
  · obtain ⟨x, rfl, _⟩ := h
    rfl
  · obtain ⟨x, rfl, q⟩ := h
    have hu := hu_of hr
    refine ⟨_, (pss_one (ps_ret (pe_op op_xor (pv 0) pe_int))), ?_⟩
    refine ⟨_, rfl, _, _, rfl, rfl, ?_⟩
    show Q (.int (Builtin.bitXor (x : Int) 1)) H
    rw [not_xor]
    exact q

abbrev s_Gates_size : Stmt := inClass (top 25) 1
abbrev N_Gates_size : List Str := ["self"]
theorem sc_Gates_size : FnScope N_Gates_size ["self"] (defScope s_Gates_size) := ⟨rfl, rfl, rfl, by decide +kernel, rfl, by decide +kernel, by decide +kernel⟩
theorem ok_Gates_size (F : Fun K "size" "Gates.size" s_Gates_size f fd) (b_len : mg "len" = none) (T_Gates : TGates K CG) : FnOk P w K mg base CX0 1 f fd ["self"] (spSize CG) := by
  refine F.ok sc_Gates_size (fun vs H Q E h => ?_) (fun cdv A outer s H vs Q E hr h => ?_)
  · obtain ⟨_, _, _, _, rfl, _⟩ := h
    rfl
  · obtain ⟨ga, n, k, g, rfl, hG, q⟩ := h
    obtain ⟨dx, h1⟩ := hG.ins
    obtain ⟨ns, h2, h3⟩ := hG.nodes
    have hu := hu_of hr
    refine ⟨_, (pss_one (ps_ret (pe_callB call_len_seq (by rfl) b_len PySem.boot_len (pa_cons (pe_fld (pv 0) rfl) pa_nil)))), ?_⟩
    refine ⟨_, rfl, ga, CG, dx, _, _, rfl, h1, T_Gates.cl, T_Gates.nN, gF_nodes n k, n, _, rfl, .inl (.inl (.inl h2)), ?_⟩
    rw [h3.len]
    exact q

abbrev s_Gates_fresh : Stmt := inClass (top 25) 3
abbrev N_Gates_fresh : List Str := ["self"]
theorem sc_Gates_fresh : FnScope N_Gates_fresh ["self"] (defScope s_Gates_fresh) := ⟨rfl, rfl, rfl, by decide +kernel, rfl, by decide +kernel, by decide +kernel⟩
theorem ok_Gates_fresh (F : Fun K "fresh" "Gates.fresh" s_Gates_fresh f fd) (T_Gates : TGates K CG) (b_len : mg "len" = none) : FnOk P w K mg base CX0 1 f fd ["self"] (spFresh CG) := by
  refine F.ok sc_Gates_fresh (fun vs H Q E h => ?_) (fun cdv A outer s H vs Q E hr h => ?_)
  · obtain ⟨_, _, _, _, rfl, _⟩ := h
    rfl
  · obtain ⟨ga, n, k, g, rfl, hG, hm, q⟩ := h
    obtain ⟨dx, h1⟩ := hG.ins
    obtain ⟨ns, h2, h3⟩ := hG.nodes
    have hu := hu_of hr
    refine ⟨_, (pss_cons (ps_expr (pe_bm PySem.F.plainAttrs_list PySem.F.slot_list_append PySem.F.type_list_append mt_append (pe_fld (pv 0) rfl) (pa_cons pe_non pa_nil)))
      (pss_one (ps_ret (pe_op op_mul pe_int (pe_callB call_len_seq (by rfl) b_len PySem.boot_len (pa_cons (pe_fld (pv 0) rfl) pa_nil)))))), ?_⟩
    refine ⟨_, rfl, ga, CG, dx, _, _, rfl, h1, T_Gates.cl, T_Gates.nN, gF_nodes n k, .inl ⟨rfl, _, .inl (.inl h2)⟩, n, ns, _, rfl, rfl, h2, lim_lt (by have := h3.len; omega), ?_⟩
    have a1 : (upd H n (.lst (ns ++ [.non]))) ga = some (.ins CG dx (gF n k)) := by rw [upd_ne hG.gn]; exact h1
    refine ⟨_, rfl, ga, CG, dx, _, _, rfl, a1, T_Gates.cl, T_Gates.nN, gF_nodes n k, n, _, rfl, .inl (.inl (.inl upd_same)), _, _, rfl, rfl, .inl ⟨by decide, by decide⟩, ?_⟩
    have q1 := q (upd H n (.lst (ns ++ [.non]))) ⟨⟨dx, a1⟩, ⟨_, upd_same, Nds.snoc (h3.mono fun p xs e => by rw [upd_ne (ne_of e h2 (by intro z; cases z))]; exact e) (.bit .nil)⟩, ?_, hG.uniq.bit⟩ ?_
    · show Q (.int (2 * ((ns ++ [V.non]).length : Int))) _
      rw [List.length_append, h3.len, show (2 * (((g.length + [V.non].length : Nat)) : Int)) = ((2 * (g.length + 1) : Nat) : Int) by show 2 * ((g.length + 1 : Nat) : Int) = _; omega]
      exact q1
    · rw [upd_ne hG.nk.symm, kn_app]
      show H k = some (.dT (knV 0 g ++ []))
      rw [List.append_nil]
      exact hG.known
    · intro b o e bn bk
      rw [upd_ne bn]
      exact e

abbrev s_Gates_gate : Stmt := inClass (top 25) 5
abbrev N_Gates_gate : List Str := ["self", "low", "high", "pair"]
theorem sc_Gates_gate : FnScope N_Gates_gate ["self", "low", "high"] (defScope s_Gates_gate) := ⟨rfl, rfl, rfl, by decide +kernel, rfl, by decide +kernel, by decide +kernel⟩
theorem ok_Gates_gate (F : Fun K "gate" "Gates.gate" s_Gates_gate f fd) (T_Gates : TGates K CG) (b_len : mg "len" = none) : FnOk P w K mg base CX0 1 f fd ["self", "low", "high"] (sp2 CG 1 gate_) := by
  refine F.ok sc_Gates_gate (fun vs H Q E h => ?_) (fun cdv A outer s H vs Q E hr h => ?_)
  · obtain ⟨_, _, _, _, _, _, rfl, _⟩ := h
    rfl
  · obtain ⟨ga, n, k, g, x, y, rfl, hG, hm, q⟩ := h
    obtain ⟨dx, h1⟩ := hG.ins
    obtain ⟨ns, h2, h3⟩ := hG.nodes
    have hu := hu_of hr
    refine ⟨_, (pss_cons (ps_set (i := 3) sc_Gates_gate.nd rfl (Or.inl rfl) (pe_tup (pa_cons (pv 1) (pa_cons (pv 2) pa_nil))))
      (pss_cons (ps_if (pt_cmp (pc_dnotin hu (pv 3) (pe_fld (pv 0) rfl)))
      (pss_cons (ps_expr (pe_bm PySem.F.plainAttrs_list PySem.F.slot_list_append PySem.F.type_list_append mt_append (pe_fld (pv 0) rfl) (pa_cons (pv 3) pa_nil)))
      (pss_one (ps_dput hu (pe_fld (pv 0) rfl) (pv 3) (pe_op op_mul pe_int (pe_callB call_len_seq (by rfl) b_len PySem.boot_len (pa_cons (pe_fld (pv 0) rfl) pa_nil))) rfl)))
      pss_nil)
      (pss_one (ps_ret (pe_dget hu (pe_fld (pv 0) rfl) (pv 3) (fun _ _ => rfl)))))), ?_⟩
    refine ⟨_, rfl, _, rfl, (by show 2 ≤ sizeLine; decide), fun p hp => ?_⟩
    have hS : Same H (upd H p (.tup [.int x, .int y])) := same_upd hp
    have kv := kn_find x y g 0
    have g1 := hG.mono hS
    have gd : DGet (upd H p (.tup [.int x, .int y])) k (.ref p) (valV (knV 0 g) (kk x y)) := DGet.t (k := kk x y) g1.known upd_same
    refine ⟨_, rfl, _, rfl, ga, CG, dx, _, _, rfl, hS _ _ h1, T_Gates.cl, T_Gates.nK, gF_known n k, k, _, rfl, gd, _, rfl, ?_⟩
    cases e : g.findIdx? (fun n => n == Sm03.Node.gate x y) with
    | some i =>
      rw [e] at kv
      rw [kv] at gd ⊢
      refine if_false_of rfl ?_
      refine ⟨_, rfl, ga, CG, dx, _, _, rfl, hS _ _ h1, T_Gates.cl, T_Gates.nK, gF_known n k, _, rfl, k, _, rfl, gd, ?_⟩
      rw [gate_some e] at q
      have := q _ g1 (kp_of hS)
      rw [show 2 * (i + 1) = 2 * (0 + i + 1) by omega] at this
      exact this
    | none =>
      rw [e] at kv
      rw [kv]
      refine if_true_of rfl ?_
      have np : n ≠ p := ne_of_none h2 hp
      have kp : k ≠ p := ne_of_none hG.known hp
      have gp : ga ≠ p := ne_of_none h1 hp
      have nk := hG.nk
      have gn := hG.gn
      have gk := hG.gk
      refine ⟨_, rfl, ga, CG, dx, _, _, rfl, hS _ _ h1, T_Gates.cl, T_Gates.nN, gF_nodes n k, .inl ⟨rfl, _, .inl (.inl (hS _ _ h2))⟩, _, rfl, n, ns, _, rfl, rfl, hS _ _ h2, lim_lt (by have := h3.len; omega), ?_⟩
      have a1 : (upd (upd H p (.tup [.int x, .int y])) n (.lst (ns ++ [.ref p]))) ga = some (.ins CG dx (gF n k)) := by rw [upd_ne gn]; exact hS _ _ h1
      have a2 : (upd (upd H p (.tup [.int x, .int y])) n (.lst (ns ++ [.ref p]))) k = some (.dT (knV 0 g)) := by rw [upd_ne nk.symm]; exact hS _ _ hG.known
      have a3 : (upd (upd H p (.tup [.int x, .int y])) n (.lst (ns ++ [.ref p]))) p = some (.tup ((kk x y).map kV)) := by rw [upd_ne np.symm]; exact upd_same
      refine ⟨_, rfl, ga, CG, dx, _, _, rfl, a1, T_Gates.cl, T_Gates.nN, gF_nodes n k, n, _, rfl, .inl (.inl (.inl upd_same)), _, _, rfl, rfl, .inl ⟨by decide, by decide⟩, ?_⟩
      refine ⟨_, rfl, ga, CG, dx, _, _, rfl, a1, T_Gates.cl, T_Gates.nK, gF_known n k, _, rfl, k, _, rfl, DPut.t (k := kk x y) a2 a3 (lim_lt (by have := kn_len g 0; omega)), ?_⟩
      have pk : putK (knV 0 g) (kk x y) (.int (2 * ((ns ++ [V.ref p]).length : Nat))) = knV 0 (g ++ [.gate x y]) := by
        unfold putK
        rw [valV_any, kv]
        rw [kn_app]
        show knV 0 g ++ [_] = knV 0 g ++ [_]
        rw [List.length_append, h3.len]
        show knV 0 g ++ [(kk x y, V.int (2 * ((g.length + 1 : Nat) : Int)))] = knV 0 g ++ [(kk x y, V.int ((2 * (0 + g.length + 1) : Nat) : Int))]
        rw [show ((2 * (0 + g.length + 1) : Nat) : Int) = 2 * ((g.length + 1 : Nat) : Int) by omega]
      have kv2 := kn_find x y (g ++ [.gate x y]) 0
      have kv3 : valV (knV 0 (g ++ [.gate x y])) (kk x y) = some (.int (2 * (g.length + 1) : Nat)) := by
        rw [kv2, List.findIdx?_append, e, List.findIdx?_cons, beq_self_eq_true]
        show some (V.int ((2 * (0 + (0 + g.length) + 1) : Nat) : Int)) = _
        rw [show 0 + (0 + g.length) + 1 = g.length + 1 by omega]
      have b1 : ∀ {o : HO}, (upd (upd (upd H p (.tup [.int x, .int y])) n (.lst (ns ++ [.ref p]))) k o) ga = some (.ins CG dx (gF n k)) := by
        intro o
        rw [upd_ne gk]
        exact a1
      refine ⟨_, rfl, ga, CG, dx, _, _, rfl, b1, T_Gates.cl, T_Gates.nK, gF_known n k, _, rfl, k, .int (2 * (g.length + 1) : Nat), rfl, ?_, ?_⟩
      · have := DGet.t (H := upd (upd (upd H p (.tup [.int x, .int y])) n (.lst (ns ++ [.ref p]))) k (.dT (putK (knV 0 g) (kk x y) (.int (2 * ((ns ++ [V.ref p]).length : Nat)))))) (a := k) (k := kk x y) upd_same (by rw [upd_ne kp.symm]; exact a3)
        rw [pk, kv3] at this
        dsimp only
        rw [pk]
        exact this
      · rw [gate_none e] at q
        refine q _ ⟨⟨dx, b1⟩, ⟨ns ++ [.ref p], ?_, ?_⟩, ?_, hG.uniq.snoc e⟩ ?_
        · rw [upd_ne nk]; exact upd_same
        · refine Nds.snoc (h3.mono fun p' xs e' => ?_) (.gate (p := p) ?_ .nil)
          · rw [upd_ne (ne_of e' hG.known (by intro z; cases z)), upd_ne (ne_of e' h2 (by intro z; cases z)), upd_ne (ne_of_none e' hp)]
            exact e'
          · rw [upd_ne kp.symm]; exact a3
        · dsimp only; rw [pk]; exact upd_same
        · intro b o eb bn bk
          rw [upd_ne bk, upd_ne bn, upd_ne (ne_of_none eb hp)]
          exact eb

abbrev s_Gates_both : Stmt := inClass (top 25) 6
abbrev N_Gates_both : List Str := ["self", "x", "y", "low", "high"]
theorem sc_Gates_both : FnScope N_Gates_both ["self", "x", "y"] (defScope s_Gates_both) := ⟨rfl, rfl, rfl, by decide +kernel, rfl, by decide +kernel, by decide +kernel⟩
theorem ok_Gates_both (F : Fun K "both" "Gates.both" s_Gates_both f fd) (b_min : mg "min" = none) (b_max : mg "max" = none) (D_opposite : DF P w K mg base 1 "opposite" (spOpp)) (g_NEVER : GI mg "NEVER" 0) (g_ALWAYS : GI mg "ALWAYS" 1) (D_gate : DM P w K mg base CG 1 "gate" (sp2 CG 1 gate_)) : FnOk P w K mg base CX0 2 f fd ["self", "x", "y"] (sp2 CG 1 Sm03.and_) := by
  refine F.ok sc_Gates_both (fun vs H Q E h => ?_) (fun cdv A outer s H vs Q E hr h => ?_)
  · obtain ⟨_, _, _, _, _, _, rfl, _⟩ := h
    rfl
  · obtain ⟨ga, n, k, g, x, y, rfl, hG, hm, q⟩ := h
    obtain ⟨dx, h1⟩ := hG.ins
    have hu := hu_of hr
    refine ⟨_, (pss_cons (ps_set (i := 3) sc_Gates_both.nd rfl (Or.inl rfl) (pe_callB (call_min2 rfl) (by rfl) b_min (by decide +kernel) (pa_cons (pv 1) (pa_cons (pv 2) pa_nil))))
      (pss_cons (ps_set (i := 4) sc_Gates_both.nd rfl (Or.inl rfl) (pe_callB (call_max2 rfl) (by rfl) b_max (by decide +kernel) (pa_cons (pv 1) (pa_cons (pv 2) pa_nil))))
      (pss_cons (ps_if (PW.pt (pw_or (pt_cmpR op_eq (pv 3) (pe_gi g_NEVER) (nomark _)) (pw_or1 (pt_cmpR op_eq (pv 4) (pe_df D_opposite hr (pa_cons (pv 3) pa_nil)) (nomark _)))))
      (pss_one (ps_ret (pe_gi g_NEVER)))
      pss_nil)
      (pss_cons (ps_if (PW.pt (pw_or (pt_cmpR op_eq (pv 3) (pe_gi g_ALWAYS) (nomark _)) (pw_or1 (pt_cmpR op_eq (pv 3) (pv 4) (nomark _)))))
      (pss_one (ps_ret (pv 4)))
      pss_nil)
      (pss_one (ps_ret (pe_dm (pv 0) D_gate hr (pa_cons (pv 3) (pa_cons (pv 4) pa_nil))))))))), ?_⟩
    refine ⟨_, rfl, _, rfl, _, _, rfl, ?_⟩
    refine ⟨_, rfl, _, rfl, _, _, rfl, ?_⟩
    rw [and_eq] at q
    have e1 : (if (y : Int) < (x : Int) then (y : Int) else (x : Int)) = ((min x y : Nat) : Int) := by split <;> omega
    have e2 : (if (y : Int) > (x : Int) then (y : Int) else (x : Int)) = ((max x y : Nat) : Int) := by split <;> omega
    rw [e1, e2]
    generalize hlo : min x y = lo at q ⊢
    generalize hhi : max x y = hi at q ⊢
    have hle : lo ≤ hi := by omega
    have hr0 : ∀ {a b : Nat}, a = b → decide (V.int (a : Int) = V.int (b : Int)) = true := fun h => decide_eq_true (by rw [h])
    have hr1 : ∀ {a b : Nat}, ¬ a = b → decide (V.int (a : Int) = V.int (b : Int)) = false := fun h => decide_eq_false fun z => h (by injection z with z; omega)
    have kr : Kp n k H H := Kp.refl
    refine ⟨_, rfl, rfl, _, rfl, ?_⟩
    by_cases c0 : lo = 0
    · rw [if_pos c0] at q
      refine if_true_of (hr0 (b := 0) c0) (if_true_of rfl ?_)
      exact q H hG kr
    rw [if_neg c0] at q
    refine if_false_of (hr1 (b := 0) c0) ?_
    refine ⟨_, rfl, _, rfl, lo, rfl, rfl, _, rfl, ?_⟩
    by_cases c1 : hi = Sm03.not_ lo
    · refine if_true_of (hr0 c1) ?_
      have n1 : ¬ lo = 1 := fun z => by
        subst z
        have : Sm03.not_ 1 = 0 := rfl
        omega
      have n2 : ¬ lo = hi := fun z => by
        rw [← z] at c1
        unfold Sm03.not_ at c1
        split at c1 <;> omega
      have n3 : lo / 2 = hi / 2 := by
        rw [c1]
        unfold Sm03.not_
        split <;> omega
      rw [if_neg n1, if_neg n2, if_pos n3] at q
      exact q H hG kr
    refine if_false_of (hr1 c1) ?_
    refine ⟨_, rfl, rfl, _, rfl, ?_⟩
    by_cases c2 : lo = 1
    · rw [if_pos c2] at q
      refine if_true_of (hr0 (b := 1) c2) (if_true_of rfl ?_)
      exact ⟨_, rfl, q H hG kr⟩
    rw [if_neg c2] at q
    refine if_false_of (hr1 (b := 1) c2) ?_
    refine ⟨_, rfl, _, rfl, rfl, _, rfl, ?_⟩
    by_cases c3 : lo = hi
    · rw [if_pos c3] at q
      refine if_true_of (hr0 c3) ?_
      rw [c3] at q
      exact ⟨_, rfl, q H hG kr⟩
    rw [if_neg c3] at q
    refine if_false_of (hr1 c3) ?_
    have n3 : ¬ lo / 2 = hi / 2 := fun z => c1 (by unfold Sm03.not_; split <;> omega)
    rw [if_neg n3] at q
    exact ⟨_, rfl, ga, dx, _, rfl, h1, rfl, _, rfl, _, rfl, ga, n, k, g, lo, hi, rfl, hG, hm, q⟩

abbrev s_Gates_either : Stmt := inClass (top 25) 7
abbrev N_Gates_either : List Str := ["self", "x", "y"]
theorem sc_Gates_either : FnScope N_Gates_either ["self", "x", "y"] (defScope s_Gates_either) := ⟨rfl, rfl, rfl, by decide +kernel, rfl, by decide +kernel, by decide +kernel⟩
theorem ok_Gates_either (F : Fun K "either" "Gates.either" s_Gates_either f fd) (D_opposite : DF P w K mg base 1 "opposite" (spOpp)) (D_both : DM P w K mg base CG 2 "both" (sp2 CG 1 Sm03.and_)) : FnOk P w K mg base CX0 3 f fd ["self", "x", "y"] (sp2 CG 1 Sm03.or_) := by
  refine F.ok sc_Gates_either (fun vs H Q E h => ?_) (fun cdv A outer s H vs Q E hr h => ?_)
  · obtain ⟨_, _, _, _, _, _, rfl, _⟩ := h
    rfl
  · obtain ⟨ga, n, k, g, x, y, rfl, hG, hm, q⟩ := h
    obtain ⟨dx, h1⟩ := hG.ins
    have hu := hu_of hr
    refine ⟨_, (pss_one (ps_ret (pe_df D_opposite (hr.mono (by decide)) (pa_cons (pe_dm (pv 0) D_both hr (pa_cons (pe_df D_opposite (hr.mono (by decide)) (pa_cons (pv 1) pa_nil)) (pa_cons (pe_df D_opposite (hr.mono (by decide)) (pa_cons (pv 2) pa_nil)) pa_nil))) pa_nil)))), ?_⟩
    refine ⟨_, rfl, ga, dx, _, rfl, h1, rfl, _, rfl, x, rfl, _, rfl, y, rfl, ?_⟩
    refine ⟨ga, n, k, g, _, _, rfl, hG, hm, fun H1 hG1 k1 => ?_⟩
    exact ⟨_, rfl, q H1 hG1 k1⟩

abbrev s_Gates_odd : Stmt := inClass (top 25) 8
abbrev N_Gates_odd : List Str := ["self", "x", "y", "p", "q"]
theorem sc_Gates_odd : FnScope N_Gates_odd ["self", "x", "y"] (defScope s_Gates_odd) := ⟨rfl, rfl, rfl, by decide +kernel, rfl, by decide +kernel, by decide +kernel⟩
theorem ok_Gates_odd (F : Fun K "odd" "Gates.odd" s_Gates_odd f fd) (D_both : DM P w K mg base CG 2 "both" (sp2 CG 1 Sm03.and_)) (D_opposite : DF P w K mg base 1 "opposite" (spOpp)) (D_either : DM P w K mg base CG 3 "either" (sp2 CG 1 Sm03.or_)) : FnOk P w K mg base CX0 4 f fd ["self", "x", "y"] (sp2 CG 3 Sm03.xor_) := by
  refine F.ok sc_Gates_odd (fun vs H Q E h => ?_) (fun cdv A outer s H vs Q E hr h => ?_)
  · obtain ⟨_, _, _, _, _, _, rfl, _⟩ := h
    rfl
  · obtain ⟨ga, n, k, g, x, y, rfl, hG, hm, q⟩ := h
    obtain ⟨dx, h1⟩ := hG.ins
    have hu := hu_of hr
    refine ⟨_, (pss_cons (ps_set (i := 3) sc_Gates_odd.nd rfl (Or.inl rfl) (pe_dm (pv 0) D_both (hr.mono (by decide)) (pa_cons (pv 1) (pa_cons (pe_df D_opposite (hr.mono (by decide)) (pa_cons (pv 2) pa_nil)) pa_nil))))
      (pss_cons (ps_set (i := 4) sc_Gates_odd.nd rfl (Or.inl rfl) (pe_dm (pv 0) D_both (hr.mono (by decide)) (pa_cons (pe_df D_opposite (hr.mono (by decide)) (pa_cons (pv 1) pa_nil)) (pa_cons (pv 2) pa_nil))))
      (pss_one (ps_ret (pe_dm (pv 0) D_either hr (pa_cons (pv 3) (pa_cons (pv 4) pa_nil))))))), ?_⟩
    refine ⟨_, rfl, ga, dx, _, rfl, h1, rfl, _, rfl, _, rfl, y, rfl, ?_⟩
    refine ⟨ga, n, k, g, _, _, rfl, hG, by omega, fun H1 hG1 k1 => ?_⟩
    obtain ⟨dx1, h11⟩ := hG1.ins
    have l1 := and_len g x (Sm03.not_ y)
    refine ⟨_, rfl, ga, dx1, _, rfl, h11, rfl, _, rfl, x, rfl, _, rfl, ?_⟩
    refine ⟨ga, n, k, _, _, _, rfl, hG1, by omega, fun H2 hG2 k2 => ?_⟩
    obtain ⟨dx2, h12⟩ := hG2.ins
    have l2 := and_len (Sm03.and_ g x (Sm03.not_ y)).1 (Sm03.not_ x) y
    refine ⟨_, rfl, ga, dx2, _, rfl, h12, rfl, _, rfl, _, rfl, ?_⟩
    refine ⟨ga, n, k, _, _, _, rfl, hG2, by omega, fun H3 hG3 k3 => ?_⟩
    exact q H3 hG3 (k1.trans (k2.trans k3))

abbrev s_Gates_chosen : Stmt := inClass (top 25) 9
abbrev N_Gates_chosen : List Str := ["self", "c", "x", "y", "p", "q"]
theorem sc_Gates_chosen : FnScope N_Gates_chosen ["self", "c", "x", "y"] (defScope s_Gates_chosen) := ⟨rfl, rfl, rfl, by decide +kernel, rfl, by decide +kernel, by decide +kernel⟩
theorem ok_Gates_chosen (F : Fun K "chosen" "Gates.chosen" s_Gates_chosen f fd) (D_both : DM P w K mg base CG 2 "both" (sp2 CG 1 Sm03.and_)) (D_opposite : DF P w K mg base 1 "opposite" (spOpp)) (D_either : DM P w K mg base CG 3 "either" (sp2 CG 1 Sm03.or_)) : FnOk P w K mg base CX0 4 f fd ["self", "c", "x", "y"] (sp3 CG 3 Sm03.mux) := by
  refine F.ok sc_Gates_chosen (fun vs H Q E h => ?_) (fun cdv A outer s H vs Q E hr h => ?_)
  · obtain ⟨_, _, _, _, _, _, _, rfl, _⟩ := h
    rfl
  · obtain ⟨ga, n, k, g, c, x, y, rfl, hG, hm, q⟩ := h
    obtain ⟨dx, h1⟩ := hG.ins
    have hu := hu_of hr
    refine ⟨_, (pss_cons (ps_set (i := 4) sc_Gates_chosen.nd rfl (Or.inl rfl) (pe_dm (pv 0) D_both (hr.mono (by decide)) (pa_cons (pv 1) (pa_cons (pv 2) pa_nil))))
      (pss_cons (ps_set (i := 5) sc_Gates_chosen.nd rfl (Or.inl rfl) (pe_dm (pv 0) D_both (hr.mono (by decide)) (pa_cons (pe_df D_opposite (hr.mono (by decide)) (pa_cons (pv 1) pa_nil)) (pa_cons (pv 3) pa_nil))))
      (pss_one (ps_ret (pe_dm (pv 0) D_either hr (pa_cons (pv 4) (pa_cons (pv 5) pa_nil))))))), ?_⟩
    refine ⟨_, rfl, ga, dx, _, rfl, h1, rfl, _, rfl, _, rfl, ?_⟩
    refine ⟨ga, n, k, g, _, _, rfl, hG, by omega, fun H1 hG1 k1 => ?_⟩
    obtain ⟨dx1, h11⟩ := hG1.ins
    have l1 := and_len g c x
    refine ⟨_, rfl, ga, dx1, _, rfl, h11, rfl, _, rfl, c, rfl, _, rfl, ?_⟩
    refine ⟨ga, n, k, _, _, _, rfl, hG1, by omega, fun H2 hG2 k2 => ?_⟩
    obtain ⟨dx2, h12⟩ := hG2.ins
    have l2 := and_len (Sm03.and_ g c x).1 (Sm03.not_ c) y
    refine ⟨_, rfl, ga, dx2, _, rfl, h12, rfl, _, rfl, _, rfl, ?_⟩
    refine ⟨ga, n, k, _, _, _, rfl, hG2, by omega, fun H3 hG3 k3 => ?_⟩
    exact q H3 hG3 (k1.trans (k2.trans k3))
end
end BC

set_option Elab.async false
set_option linter.all false
set_option maxRecDepth 100000
set_option maxHeartbeats 2000000
namespace BC
open PySem PySem.Spec PyProof.Rows L2
/-! ### words: pure -/
section
variable {f : Graph → Nat → Nat → Graph × Nat}
theorem each2_cons (g : Graph) (x y : Nat) (l r : List Nat) : Sm03.each2 f g (x :: l) (y :: r) = ((Sm03.each2 f (f g x y).1 l r).1, (f g x y).2 :: (Sm03.each2 f (f g x y).1 l r).2) := rfl
theorem each2_len {c : Nat} (hf : ∀ g x y, (f g x y).1.length ≤ g.length + c) : ∀ (a b : List Nat) (g : Graph), (Sm03.each2 f g a b).1.length ≤ g.length + c * a.length
  | [], _, g => Nat.le_refl _
  | x :: l, [], g => by show g.length ≤ _; omega
  | x :: l, y :: r, g => by
    rw [each2_cons]
    have h1 := hf g x y
    have h2 := each2_len hf l r (f g x y).1
    show (Sm03.each2 f (f g x y).1 l r).1.length ≤ g.length + c * (l.length + 1)
    rw [Nat.mul_add]
    omega
theorem each2_out : ∀ (a b : List Nat) (g : Graph), a.length = b.length → (Sm03.each2 f g a b).2.length = a.length
  | [], _, g, _ => rfl
  | x :: l, [], g, h => by cases h
  | x :: l, y :: r, g, h => by
    rw [each2_cons]
    show (Sm03.each2 f (f g x y).1 l r).2.length + 1 = l.length + 1
    rw [each2_out l r _ (Nat.succ.inj h)]
/-- behind i turns of a walk over both -/
structure EI (f : Graph → Nat → Nat → Graph × Nat) (c : Nat) (g : Graph) (a b : List Nat) (i : Nat) (gi : Graph) (acc : List Nat) : Prop where
  eq : Sm03.each2 f g a b = ((Sm03.each2 f gi (a.drop i) (b.drop i)).1, acc ++ (Sm03.each2 f gi (a.drop i) (b.drop i)).2)
  len : gi.length ≤ g.length + c * i
  al : acc.length = i
theorem EI.start {c : Nat} {g : Graph} {a b : List Nat} : EI f c g a b 0 g [] := ⟨rfl, Nat.le_refl _, rfl⟩
theorem drop_at {α : Type} {l : List α} {i : Nat} {x : α} (h : l[i]? = some x) : l.drop i = x :: l.drop (i + 1) := by
  obtain ⟨h1, h2⟩ := List.getElem?_eq_some_iff.mp h
  rw [List.drop_eq_getElem_cons h1, h2]
theorem EI.step {c : Nat} (hf : ∀ g x y, (f g x y).1.length ≤ g.length + c) {g gi : Graph} {a b acc : List Nat} {i x y : Nat} (h : EI f c g a b i gi acc) (hx : a[i]? = some x) (hy : b[i]? = some y) :
    EI f c g a b (i + 1) (f gi x y).1 (acc ++ [(f gi x y).2]) := by
  refine ⟨?_, ?_, ?_⟩
  · rw [h.eq, drop_at hx, drop_at hy, each2_cons, List.append_assoc]
    rfl
  · have := hf gi x y
    have := h.len
    rw [Nat.mul_add]
    omega
  · rw [List.length_append, h.al]
    rfl
theorem EI.fin {c : Nat} {g gi : Graph} {a b acc : List Nat} {i : Nat} (h : EI f c g a b i gi acc) (hi : a.length ≤ i) : Sm03.each2 f g a b = (gi, acc) := by
  rw [h.eq, List.drop_eq_nil_of_le hi]
  show (gi, acc ++ []) = _
  rw [List.append_nil]
end
theorem adds_cons (g : Graph) (c x y : Nat) (l r : List Nat) : Sm03.adds g c (x :: l) (y :: r) =
    (let p := Sm03.xor_ g x y
     let s := Sm03.xor_ p.1 p.2 c
     let e := Sm03.and_ s.1 x y
     let f := Sm03.and_ e.1 p.2 c
     let z := Sm03.or_ f.1 e.2 f.2
     let rest := Sm03.adds z.1 z.2 l r
     (rest.1, s.2 :: rest.2.1, rest.2.2)) := rfl
def bitP (g : Graph) (x y : Nat) : Graph × Nat := Sm03.xor_ g x y
def bitS (g : Graph) (c x y : Nat) : Graph × Nat := Sm03.xor_ (bitP g x y).1 (bitP g x y).2 c
def bitE (g : Graph) (c x y : Nat) : Graph × Nat := Sm03.and_ (bitS g c x y).1 x y
def bitF (g : Graph) (c x y : Nat) : Graph × Nat := Sm03.and_ (bitE g c x y).1 (bitP g x y).2 c
def bitZ (g : Graph) (c x y : Nat) : Graph × Nat := Sm03.or_ (bitF g c x y).1 (bitE g c x y).2 (bitF g c x y).2
theorem adds_cons2 (g : Graph) (c x y : Nat) (l r : List Nat) : Sm03.adds g c (x :: l) (y :: r) =
    ((Sm03.adds (bitZ g c x y).1 (bitZ g c x y).2 l r).1, (bitS g c x y).2 :: (Sm03.adds (bitZ g c x y).1 (bitZ g c x y).2 l r).2.1, (Sm03.adds (bitZ g c x y).1 (bitZ g c x y).2 l r).2.2) := rfl
theorem bitP_len (g : Graph) (x y : Nat) : (bitP g x y).1.length ≤ g.length + 3 := xor_len _ _ _
theorem bitS_len (g : Graph) (c x y : Nat) : (bitS g c x y).1.length ≤ g.length + 6 := by
  have := bitP_len g x y
  have := xor_len (bitP g x y).1 (bitP g x y).2 c
  show (Sm03.xor_ _ _ _).1.length ≤ _
  omega
theorem bitE_len (g : Graph) (c x y : Nat) : (bitE g c x y).1.length ≤ g.length + 7 := by
  have := bitS_len g c x y
  have := and_len (bitS g c x y).1 x y
  show (Sm03.and_ _ _ _).1.length ≤ _
  omega
theorem bitF_len (g : Graph) (c x y : Nat) : (bitF g c x y).1.length ≤ g.length + 8 := by
  have := bitE_len g c x y
  have := and_len (bitE g c x y).1 (bitP g x y).2 c
  show (Sm03.and_ _ _ _).1.length ≤ _
  omega
theorem bitZ_len (g : Graph) (c x y : Nat) : (bitZ g c x y).1.length ≤ g.length + 9 := by
  have := bitF_len g c x y
  have := or_len (bitF g c x y).1 (bitE g c x y).2 (bitF g c x y).2
  show (Sm03.or_ _ _ _).1.length ≤ _
  omega
theorem adds_len : ∀ (a b : List Nat) (g : Graph) (c : Nat), (Sm03.adds g c a b).1.length ≤ g.length + 9 * a.length
  | [], _, g, _ => Nat.le_refl _
  | x :: l, [], g, _ => by show g.length ≤ _; omega
  | x :: l, y :: r, g, c => by
    rw [adds_cons2]
    have h1 := bitZ_len g c x y
    have h2 := adds_len l r (bitZ g c x y).1 (bitZ g c x y).2
    show (Sm03.adds (bitZ g c x y).1 (bitZ g c x y).2 l r).1.length ≤ g.length + 9 * (l.length + 1)
    omega
theorem adds_out : ∀ (a b : List Nat) (g : Graph) (c : Nat), a.length = b.length → (Sm03.adds g c a b).2.1.length = a.length
  | [], _, g, _, _ => rfl
  | x :: l, [], g, _, h => by cases h
  | x :: l, y :: r, g, c, h => by
    rw [adds_cons2]
    show (Sm03.adds (bitZ g c x y).1 (bitZ g c x y).2 l r).2.1.length + 1 = l.length + 1
    rw [adds_out l r _ _ (Nat.succ.inj h)]
structure AI (g : Graph) (c : Nat) (a b : List Nat) (i : Nat) (gi : Graph) (ci : Nat) (acc : List Nat) : Prop where
  eq : Sm03.adds g c a b = ((Sm03.adds gi ci (a.drop i) (b.drop i)).1, acc ++ (Sm03.adds gi ci (a.drop i) (b.drop i)).2.1, (Sm03.adds gi ci (a.drop i) (b.drop i)).2.2)
  len : gi.length ≤ g.length + 9 * i
  al : acc.length = i
theorem AI.start {g : Graph} {c : Nat} {a b : List Nat} : AI g c a b 0 g c [] := ⟨rfl, Nat.le_refl _, rfl⟩
theorem AI.step {g gi : Graph} {a b acc : List Nat} {c ci i x y : Nat} (h : AI g c a b i gi ci acc) (hx : a[i]? = some x) (hy : b[i]? = some y) :
    AI g c a b (i + 1) (bitZ gi ci x y).1 (bitZ gi ci x y).2 (acc ++ [(bitS gi ci x y).2]) := by
  refine ⟨?_, ?_, ?_⟩
  · rw [h.eq, drop_at hx, drop_at hy, adds_cons2, List.append_assoc]
    rfl
  · have := bitZ_len gi ci x y
    have := h.len
    omega
  · rw [List.length_append, h.al]
    rfl
theorem AI.fin {g gi : Graph} {a b acc : List Nat} {c ci i : Nat} (h : AI g c a b i gi ci acc) (hi : a.length ≤ i) : Sm03.adds g c a b = (gi, acc, ci) := by
  rw [h.eq, List.drop_eq_nil_of_le hi]
  show (gi, acc ++ [], ci) = _
  rw [List.append_nil]
/-! ### words in the heap -/
def lits (ws : List Nat) : List V := ws.map fun (x : Nat) => V.int (x : Int)
theorem lits_at {ws : List Nat} {i : Nat} {v : V} (h : (lits ws)[i]? = some v) : ∃ x, ws[i]? = some x ∧ v = .int (x : Int) := by
  unfold lits at h
  rw [List.getElem?_map] at h
  cases e : ws[i]? with
  | none => rw [e] at h; cases h
  | some z => rw [e] at h; exact ⟨z, rfl, (Option.some.inj h).symm⟩
theorem at_lits {ws : List Nat} {i x : Nat} (h : ws[i]? = some x) : (lits ws)[i]? = some (.int (x : Int)) := by
  unfold lits
  rw [List.getElem?_map, h]
  rfl
theorem lits_len (ws : List Nat) : (lits ws).length = ws.length := List.length_map ..
theorem lits_app (a b : List Nat) : lits (a ++ b) = lits a ++ lits b := List.map_append ..
def New (H : Hp) (Q : VK) (ws : List Nat) : Prop := ∀ (p : Addr) (H' : Hp), Same H H' → H p = none → H' p = some (.lst (lits ws)) → Q (.ref p) H'
def NewG (CG ga n k : Addr) (H : Hp) (Q : VK) (r : Graph × List Nat) : Prop := ∀ (p : Addr) (H' : Hp), GAt CG ga n k H' r.1 → Kp n k H H' → H p = none → H' p = some (.lst (lits r.2)) → Q (.ref p) H'
def Wd (n : Addr) (H : Hp) (a : Addr) (ws : List Nat) : Prop := H a = some (.lst (lits ws)) ∧ a ≠ n
section
variable {CG ga n k a p : Addr} {H H' : Hp} {g : Graph} {ws : List Nat}
theorem Wd.kp (h : Wd n H a ws) (hG : GAt CG ga n k H g) (hk : Kp n k H H') : Wd n H' a ws :=
  ⟨hk _ _ h.1 h.2 (ne_of h.1 hG.known (by intro z; cases z)), h.2⟩
theorem Wd.same (h : Wd n H a ws) (s : Same H H') : Wd n H' a ws := ⟨s _ _ h.1, h.2⟩
theorem GAt.fresh_n (hG : GAt CG ga n k H g) (hp : H p = none) : p ≠ n := by
  obtain ⟨vs, h2, _⟩ := hG.nodes
  exact (ne_of_none h2 hp).symm
theorem GAt.fresh_k (hG : GAt CG ga n k H g) (hp : H p = none) : p ≠ k := (ne_of_none hG.known hp).symm
theorem GAt.fresh_g (hG : GAt CG ga n k H g) (hp : H p = none) : p ≠ ga := by
  obtain ⟨dx, h1⟩ := hG.ins
  exact (ne_of_none h1 hp).symm
theorem kp_free (hk : Kp n k H H') (hG : GAt CG ga n k H g) {q : Addr} (hq : H' q = none) (hqn : q ≠ n) (hqk : q ≠ k) : H q = none := by
  cases e : H q with
  | none => rfl
  | some o => rw [hk _ _ e hqn hqk] at hq; cases hq
end
/-! ### the promises -/
def spZeros : Sp := fun vs H Q _ => ∃ m : Nat, vs = [.int m] ∧ m ≤ LIM ∧ New H Q (List.replicate m 0)
def spOpps : Sp := fun vs H Q _ => ∃ (a : Addr) (ws : List Nat), vs = [.ref a] ∧ H a = some (.lst (lits ws)) ∧ ws.length ≤ LIM ∧ New H Q (ws.map Sm03.not_)
/-- of two words, as wide as each other -/
def spW2 (CG : Addr) (m c : Nat) (f : Graph → List Nat → List Nat → Graph × List Nat) : Sp := fun vs H Q _ => ∃ (ga n k aa ab : Addr) (g : Graph) (a b : List Nat),
  vs = [.ref ga, .ref aa, .ref ab] ∧ GAt CG ga n k H g ∧ Wd n H aa a ∧ Wd n H ab b ∧ a.length = b.length ∧ 1 ≤ a.length ∧ a.length ≤ m ∧ g.length + c ≤ LIM ∧ NewG CG ga n k H Q (f g a b)
def spChW (CG : Addr) : Sp := fun vs H Q _ => ∃ (ga n k aa ab : Addr) (g : Graph) (c : Nat) (a b : List Nat),
  vs = [.ref ga, .int c, .ref aa, .ref ab] ∧ GAt CG ga n k H g ∧ Wd n H aa a ∧ Wd n H ab b ∧ a.length = b.length ∧ a.length ≤ 16 ∧ g.length + 48 ≤ LIM ∧ NewG CG ga n k H Q (Sm03.muxes c g a b)
def addsL (g : Graph) (c : Nat) (a b : List Nat) : Graph × List Nat := ((Sm03.adds g c a b).1, (Sm03.adds g c a b).2.1 ++ [(Sm03.adds g c a b).2.2])
def spAdded (CG : Addr) : Sp := fun vs H Q _ => ∃ (ga n k aa ab : Addr) (g : Graph) (a b : List Nat) (c : Nat),
  vs = [.ref ga, .ref aa, .ref ab, .int c] ∧ GAt CG ga n k H g ∧ Wd n H aa a ∧ Wd n H ab b ∧ a.length = b.length ∧ a.length ≤ 16 ∧ g.length + 144 ≤ LIM ∧ NewG CG ga n k H Q (addsL g c a b)
def subsL (g : Graph) (a b : List Nat) : Graph × List Nat := addsL g 1 a (b.map Sm03.not_)
theorem free_upd {H : Hp} {l p : Addr} {o : HO} (h : upd H l o p = none) : H p = none ∧ p ≠ l := by
  by_cases e : p = l
  · subst e
    rw [upd_same] at h
    cases h
  · rw [upd_ne e] at h
    exact ⟨h, e⟩
section
variable {CG ga n k D : Addr} {H H1 H2 : Hp} {g : Graph}
theorem GAt.updL (h : GAt CG ga n k H g) {xs ys : List V} (hD : H D = some (.lst xs)) (dn : D ≠ n) : GAt CG ga n k (upd H D (.lst ys)) g := by
  obtain ⟨dx, h1⟩ := h.ins
  obtain ⟨vs, h2, h3⟩ := h.nodes
  refine ⟨⟨dx, ?_⟩, ⟨vs, ?_, h3.mono fun p zs e => ?_⟩, ?_, h.uniq⟩
  · rw [upd_ne (ne_of h1 hD (by intro z; cases z))]; exact h1
  · rw [upd_ne dn.symm]; exact h2
  · rw [upd_ne (ne_of e hD (by intro z; cases z))]; exact e
  · rw [upd_ne (ne_of h.known hD (by intro z; cases z))]; exact h.known
theorem kp_upd {o : HO} (h : Kp n k H H1) (hD : H D = none) : Kp n k H (upd H1 D o) := fun b x e bn bk => by
  rw [upd_ne (ne_of_none e hD)]
  exact h b x e bn bk
theorem same_updN {o : HO} (h : Same H H1) (hD : H D = none) : Same H (upd H1 D o) := fun b x e => by
  rw [upd_ne (ne_of_none e hD)]
  exact h b x e
end
theorem yes_of {σ : L2.St} {H : Hp} {Q : Bool → Hp → Prop} (h : Q true H) : tYes σ H Q := h
/-- a comprehension over two words that makes gates -/
theorem lc_each2 {K : PySem.W.Frag} {CG ga n k aa ab : Addr} {H : Hp} {g : Graph} {a b : List Nat} {f : Graph → Nat → Nat → Graph × Nat} {c : Nat} {wi : TI} {te : TE} {σ : L2.St} {vs : List Nat} {i4 i5 : Nat} {Q : VK}
    (hf : ∀ g x y, (f g x y).1.length ≤ g.length + c) (hwi : ∀ R : It → Hp → Prop, R (Itz K aa ab) H → wi σ H R) (hG : GAt CG ga n k H g) (hA : Wd n H aa a) (hB : Wd n H ab b) (hl : a.length = b.length) (h16 : a.length ≤ 16) (hb : g.length + c * 16 ≤ LIM)
    (hw : ∀ x y : Nat, wipe (((wipe σ vs).set i4 (some (.int (x : Int)))).set i5 (some (.int (y : Int)))) vs = wipe σ vs)
    (turn : ∀ (x y : Nat) (H1 : Hp) (gi : Graph) (R : VK), GAt CG ga n k H1 gi → gi.length + c ≤ LIM → (∀ H2, GAt CG ga n k H2 (f gi x y).1 → Kp n k H1 H2 → R (.int ((f gi x y).2 : Nat)) H2) →
      te (((wipe σ vs).set i4 (some (.int (x : Int)))).set i5 (some (.int (y : Int)))) H1 R)
    (q : NewG CG ga n k H Q (Sm03.each2 f g a b)) : tLc wi (gTup K 2 (gCons (gName i4) (gCons (gName i5) gNil))) tYes te vs σ H Q := by
  refine hwi _ fun D hD => ?_
  have dn : D ≠ n := hG.fresh_n hD
  have dk : D ≠ k := hG.fresh_k hD
  refine lc_it (walk_zip (K := K) (a := aa) (b := ab) (xs := lits a) (ys := lits b) (n := a.length) (by rw [lits_len, lits_len]; omega)) (fun i H1 => ∃ gi acc, EI f c g a b i gi acc ∧ GAt CG ga n k H1 gi ∧ Kp n k H H1 ∧ H1 D = some (.lst (lits acc)))
    ⟨g, [], EI.start, hG.mono (same_upd hD), kp_of (same_upd hD), upd_same⟩ (fun i H1 _ ⟨gi, acc, _, hG1, k1, _⟩ => ⟨.inl (.inl (hA.kp hG k1).1), .inl (.inl (hB.kp hG k1).1)⟩) ?_ ?_
  · rintro i v H1 H2 hi ⟨gi, acc, he, hG1, k1, e1⟩ ⟨T, x', y', rfl, hT, rfl, hx', hy'⟩
    obtain ⟨x, hx, rfl⟩ := lits_at hx'
    obtain ⟨y, hy, rfl⟩ := lits_at hy'
    refine ⟨T, [.int x, .int y], rfl, .inl (.inl upd_same), rfl, _, _, rfl, _, _, rfl, rfl, hw x y, yes_of (if_true_of rfl ?_)⟩
    have sT : Same H1 (upd H1 T (.tup [.int x, .int y])) := same_upd hT
    refine turn x y _ gi _ (hG1.mono sT) (by have h1 := he.len; have h2 : c * i ≤ c * 15 := Nat.mul_le_mul_left c (by omega); omega) fun H2 hG2 k2 => ?_
    have e2 : H2 D = some (.lst (lits acc)) := k2 _ _ (sT _ _ e1) dn dk
    refine ⟨_, e2, lim_lt (by rw [lits_len, he.al]; have : (16 : Nat) ≤ LIM := by decide
                              omega), _, _, he.step hf hx hy, hG2.updL e2 dn, kp_upd (k1.trans ((kp_of sT).trans k2)) hD, ?_⟩
    rw [upd_same, lits_app]
    rfl
  · rintro H1 ⟨gi, acc, he, hG1, k1, e1⟩
    have e := he.fin (Nat.le_refl _)
    refine q D H1 ?_ k1 hD ?_
    · rw [e]; exact hG1
    · rw [e]; exact e1
theorem flat_rep {α : Type} (x : α) : ∀ m : Nat, (List.replicate m [x]).flatten = List.replicate m x
  | 0 => rfl
  | m + 1 => by
    rw [List.replicate_succ, List.flatten_cons, flat_rep x m, List.replicate_succ]
    rfl
section
variable {CG ga n k p : Addr} {H H1 : Hp} {g : Graph} {Q : VK} {r : Graph × List Nat}
theorem newG_of (q : NewG CG ga n k H Q r) (hG : GAt CG ga n k H g) (hG1 : GAt CG ga n k H1 r.1) (k1 : Kp n k H H1) (hp : H1 p = none) : Q (.ref p) (upd H1 p (.lst (lits r.2))) :=
  q p _ (hG1.mono (same_upd hp)) (k1.trans (kp_of (same_upd hp))) (kp_free k1 hG hp (hG1.fresh_n hp) (hG1.fresh_k hp)) upd_same
theorem NewG.kp (q : NewG CG ga n k H Q r) {g1 : Graph} (hG : GAt CG ga n k H g) (hG1 : GAt CG ga n k H1 g1) (k1 : Kp n k H H1) : NewG CG ga n k H1 Q r := fun p H' hG' k' hp e =>
  q p H' hG' (k1.trans k') (kp_free k1 hG hp (hG1.fresh_n hp) (hG1.fresh_k hp)) e
theorem NewG.same (q : NewG CG ga n k H Q r) (s : Same H H1) : NewG CG ga n k H1 Q r := fun p H' hG' k' hp e =>
  q p H' hG' ((kp_of s).trans k') (s.free hp) e
theorem new_of {ws : List Nat} (q : New H Q ws) (s : Same H H1) (hp : H1 p = none) : Q (.ref p) (upd H1 p (.lst (lits ws))) := q p _ (s.trans (same_upd hp)) (s.free hp) upd_same
theorem New.same {ws : List Nat} (q : New H Q ws) (s : Same H H1) : New H1 Q ws := fun p H' s' hp e => q p H' (s.trans s') (s.free hp) e
end
theorem cut_to (xs : List V) (m : Nat) : cutV xs none (some (m : Int)) = xs.take m := by
  unfold cutV
  rw [HT.sIx_none, HT.sIx_nat, List.drop_zero, Nat.sub_zero]
  by_cases h : m ≤ xs.length
  · rw [Nat.min_eq_left h]
  · rw [Nat.min_eq_right (by omega), List.take_length, List.take_of_length_le (by omega)]
theorem cut_from (xs : List V) (m : Nat) : cutV xs (some (m : Int)) none = xs.drop m := by
  unfold cutV
  rw [HT.sIx_none, HT.sIx_nat]
  by_cases h : m ≤ xs.length
  · rw [Nat.min_eq_left h]
    exact List.take_of_length_le (by rw [List.length_drop]; exact Nat.le_refl _)
  · rw [Nat.min_eq_right (by omega), List.drop_eq_nil_of_le (Nat.le_refl _), List.drop_eq_nil_of_le (by omega), List.take_nil]
theorem cut_m1 (ws : List Nat) (z : Nat) : cutV (lits (ws ++ [z])) none (some (-1)) = lits ws := by
  unfold cutV
  rw [HT.sIx_none, List.drop_zero, lits_len, List.length_append]
  show (lits (ws ++ [z])).take ((-1 + ((ws.length + 1 : Nat) : Int)).toNat - 0) = _
  rw [show (-1 + ((ws.length + 1 : Nat) : Int)).toNat - 0 = (lits ws).length by rw [lits_len]; omega, lits_app, List.take_left' rfl]
theorem at_m1 (ws : List Nat) (z : Nat) : atI (lits (ws ++ [z])) (-1) = some (.int (z : Int)) := by
  unfold atI
  have e : ixN (lits (ws ++ [z])).length (-1) = some ws.length := by
    unfold ixN
    rw [if_neg (by omega), lits_len, List.length_append]
    show (if -((ws.length + 1 : Nat) : Int) ≤ -1 then some (-1 + ((ws.length + 1 : Nat) : Int)).toNat else none) = _
    rw [if_pos (by omega)]
    congr 1
    omega
  rw [e]
  exact at_lits (by rw [List.getElem?_append_right (Nat.le_refl _), Nat.sub_self]; rfl)
theorem lits_take (ws : List Nat) (m : Nat) : (lits ws).take m = lits (ws.take m) := by
  unfold lits
  rw [List.map_take]
theorem lits_drop (ws : List Nat) (m : Nat) : (lits ws).drop m = lits (ws.drop m) := by
  unfold lits
  rw [List.map_drop]
/-- as long as it was -/
def spUp : Sp := fun vs H Q _ => ∃ (a : Addr) (ws : List Nat) (m : Nat), vs = [.ref a, .int m] ∧ H a = some (.lst (lits ws)) ∧ ws.length ≤ 1000 ∧ m ≤ 1000 ∧ New H Q (Sm03.up m ws)
def spDown : Sp := fun vs H Q _ => ∃ (a : Addr) (ws : List Nat) (m z : Nat), vs = [.ref a, .int m, .int z] ∧ H a = some (.lst (lits ws)) ∧ ws.length ≤ 1000 ∧ m ≤ 1000 ∧ New H Q (Sm03.down z m ws)
def spW1 (CG : Addr) (m c : Nat) (f : Graph → List Nat → Graph × List Nat) : Sp := fun vs H Q _ => ∃ (ga n k aa : Addr) (g : Graph) (a : List Nat),
  vs = [.ref ga, .ref aa] ∧ GAt CG ga n k H g ∧ Wd n H aa a ∧ 1 ≤ a.length ∧ a.length ≤ m ∧ g.length + c ≤ LIM ∧ NewG CG ga n k H Q (f g a)
def fNeg (g : Graph) (a : List Nat) : Graph × List Nat := ((Sm03.subs g (Sm03.noes a) a).1, (Sm03.subs g (Sm03.noes a) a).2.1)
def fOp (o : Sm03.Op) (g : Graph) (a b : List Nat) : Graph × List Nat := Sm03.twoOf g a b o
theorem noes_eq (a : List Nat) : Sm03.noes a = List.replicate a.length 0 := by
  unfold Sm03.noes
  exact List.map_const' ..
theorem addsL_out (g : Graph) (c : Nat) (a b : List Nat) (h : a.length = b.length) : (addsL g c a b).2.length = a.length + 1 := by
  show ((Sm03.adds g c a b).2.1 ++ [_]).length = _
  rw [List.length_append, adds_out a b g c h]
  rfl
theorem down_eq (ws : List Nat) (m z : Nat) : (ws ++ List.replicate m z).drop m = Sm03.down z m ws := by
  unfold Sm03.down
  rw [List.drop_append]
  congr 1
  rw [List.drop_replicate]
  congr 1
  omega
/-! ### moves, all, turned: pure -/
theorem up_len (m : Nat) (ws : List Nat) : (Sm03.up m ws).length = ws.length := by
  unfold Sm03.up
  rw [List.length_take, List.length_append, List.length_replicate]
  omega
theorem down_len (z m : Nat) (ws : List Nat) : (Sm03.down z m ws).length = ws.length := by
  unfold Sm03.down
  rw [List.length_append, List.length_drop, List.length_replicate]
  omega
def downS (sg : Bool) (m : Nat) (ws : List Nat) : List Nat := Sm03.down (if sg = true then Sm03.last ws else 0) m ws
theorem downS_len (sg : Bool) (m : Nat) (ws : List Nat) : (downS sg m ws).length = ws.length := down_len _ _ _
structure VI (f : Nat → List Nat → List Nat) (g : Graph) (b a : List Nat) (i : Nat) (gi : Graph) (ws : List Nat) : Prop where
  eq : Sm03.moves f g b 1 a = Sm03.moves f gi (b.drop i) (2 ^ i) ws
  wl : ws.length = a.length
  len : gi.length ≤ g.length + 24 * i
theorem VI.start {f : Nat → List Nat → List Nat} {g : Graph} {b a : List Nat} : VI f g b a 0 g a := ⟨rfl, rfl, Nat.le_refl _⟩
theorem VI.step {f : Nat → List Nat → List Nat} {g gi : Graph} {b a ws : List Nat} {i x : Nat} (h : VI f g b a i gi ws) (hf : ∀ m l, (f m l).length = l.length) (hx : b[i]? = some x) (h8 : a.length ≤ 8) :
    VI f g b a (i + 1) (Sm03.muxes x gi (f (2 ^ i) ws) ws).1 (Sm03.muxes x gi (f (2 ^ i) ws) ws).2 := by
  have wl := h.wl
  refine ⟨?_, ?_, ?_⟩
  · rw [h.eq, drop_at hx, Nat.pow_succ, Nat.mul_comm]
    rfl
  · rw [← h.wl, ← hf (2 ^ i) ws]
    exact each2_out _ _ _ (hf _ _)
  · have h1 : (Sm03.muxes x gi (f (2 ^ i) ws) ws).1.length ≤ gi.length + 3 * (f (2 ^ i) ws).length := each2_len (f := fun g a b => Sm03.mux g x a b) (c := 3) (fun g p q => mux_len g x p q) (f (2 ^ i) ws) ws gi
    have h2 := h.len
    have h3 := hf (2 ^ i) ws
    omega
theorem VI.fin {f : Nat → List Nat → List Nat} {g gi : Graph} {b a ws : List Nat} {i : Nat} (h : VI f g b a i gi ws) (hi : b.length ≤ i) : Sm03.moves f g b 1 a = (gi, ws) := by
  rw [h.eq, List.drop_eq_nil_of_le hi]
  rfl
structure LI (g : Graph) (l : List Nat) (i : Nat) (gi : Graph) (z : Nat) : Prop where
  eq : Sm03.alls g 1 (l.map Sm03.not_) = Sm03.alls gi z ((l.drop i).map Sm03.not_)
  len : gi.length ≤ g.length + i
theorem LI.start {g : Graph} {l : List Nat} : LI g l 0 g 1 := ⟨rfl, Nat.le_refl _⟩
theorem LI.step {g gi : Graph} {l : List Nat} {i z x : Nat} (h : LI g l i gi z) (hx : l[i]? = some x) : LI g l (i + 1) (Sm03.and_ gi z (Sm03.not_ x)).1 (Sm03.and_ gi z (Sm03.not_ x)).2 := by
  refine ⟨?_, ?_⟩
  · rw [h.eq, drop_at hx]
    rfl
  · have := and_len gi z (Sm03.not_ x)
    have := h.len
    omega
theorem LI.fin {g gi : Graph} {l : List Nat} {i z : Nat} (h : LI g l i gi z) (hi : l.length ≤ i) : Sm03.alls g 1 (l.map Sm03.not_) = (gi, z) := by
  rw [h.eq, List.drop_eq_nil_of_le hi]
  rfl
theorem snoc_of {ws : List Nat} (h : 1 ≤ ws.length) : ∃ us z, ws = us ++ [z] :=
  ⟨ws.dropLast, ws.getLast (by intro e; rw [e] at h; cases h), (List.dropLast_concat_getLast _).symm⟩
theorem last_snoc (us : List Nat) (z : Nat) : Sm03.last (us ++ [z]) = z := by
  unfold Sm03.last
  rw [List.getLastD_eq_getLast?, List.getLast?_append]
  rfl
theorem at_last (ws : List Nat) (h : 1 ≤ ws.length) : atI (lits ws) (-1) = some (.int ((Sm03.last ws : Nat) : Int)) := by
  obtain ⟨us, z, rfl⟩ := snoc_of h
  rw [last_snoc]
  exact at_m1 _ _
theorem turned_eq (us : List Nat) (z : Nat) : Sm03.turned (us ++ [z]) = us ++ [Sm03.not_ z] := by
  unfold Sm03.turned
  rw [last_snoc, List.dropLast_concat]
theorem turned_len (ws : List Nat) (h : 1 ≤ ws.length) : (Sm03.turned ws).length = ws.length := by
  unfold Sm03.turned
  rw [List.length_append, List.length_dropLast]
  show ws.length - 1 + 1 = _
  omega
def spStep (CG : Addr) : Sp := fun vs H Q _ => ∃ (ga n k aa ab : Addr) (g : Graph) (a b : List Nat) (sg : Bool),
  vs = [.ref ga, .ref aa, .ref ab, .bl sg] ∧ GAt CG ga n k H g ∧ Wd n H aa a ∧ Wd n H ab b ∧ a.length = b.length ∧ 1 ≤ a.length ∧ a.length ≤ 8 ∧ g.length + 4000 ≤ LIM ∧ NewG CG ga n k H Q (Sm03.moves (downS sg) g b 1 a)
def spTurned : Sp := fun vs H Q _ => ∃ (a : Addr) (ws : List Nat), vs = [.ref a] ∧ H a = some (.lst (lits ws)) ∧ 1 ≤ ws.length ∧ ws.length ≤ 16 ∧ New H Q (Sm03.turned ws)
/-- a conditional expression whose value is known -/
theorem tIf_known {t : TT} {ta tb : TE} {σ : L2.St} {H : Hp} {Q : VK} (v : V) (h : ∀ R : VK, R v H → tIf t ta tb σ H R) (hq : Q v H) : tIf t ta tb σ H Q := h Q hq
/-! ### products: pure -/
theorem part_len (g : Graph) (x : Nat) (l : List Nat) : (Sm03.part g x l).1.length ≤ g.length + l.length := by
  have := each2_len and_len (l.map fun _ => x) l g
  rw [List.length_map, Nat.one_mul] at this
  exact this
theorem part_out (g : Graph) (x : Nat) (l : List Nat) : (Sm03.part g x l).2.length = l.length := by
  have := each2_out (f := Sm03.and_) (l.map fun _ => x) l g (List.length_map ..)
  rw [List.length_map] at this
  exact this
theorem muls_cons (w : Nat) (b : List Nat) (g : Graph) (x : Nat) (l : List Nat) (i : Nat) (acc : List Nat) : Sm03.muls w b g (x :: l) i acc =
  Sm03.muls w b (Sm03.adds (Sm03.part g x ((List.replicate i 0 ++ b).take w)).1 0 acc (Sm03.part g x ((List.replicate i 0 ++ b).take w)).2).1 l (i + 1) (Sm03.adds (Sm03.part g x ((List.replicate i 0 ++ b).take w)).1 0 acc (Sm03.part g x ((List.replicate i 0 ++ b).take w)).2).2.1 := rfl
structure MI (g : Graph) (a b : List Nat) (i : Nat) (gi : Graph) (acc : List Nat) : Prop where
  eq : Sm03.muls b.length b g a 0 (List.replicate a.length 0) = Sm03.muls b.length b gi (a.drop i) i acc
  al : acc.length = b.length
  len : gi.length ≤ g.length + 80 * i
theorem MI.start {g : Graph} {a b : List Nat} (hl : a.length = b.length) : MI g a b 0 g (List.replicate a.length 0) := ⟨rfl, by rw [List.length_replicate, hl], Nat.le_refl _⟩
theorem MI.step {g gi : Graph} {a b acc : List Nat} {i x : Nat} (h : MI g a b i gi acc) (hx : a[i]? = some x) (h8 : b.length ≤ 8) :
    MI g a b (i + 1) (Sm03.adds (Sm03.part gi x (Sm03.up i b)).1 0 acc (Sm03.part gi x (Sm03.up i b)).2).1 (Sm03.adds (Sm03.part gi x (Sm03.up i b)).1 0 acc (Sm03.part gi x (Sm03.up i b)).2).2.1 := by
  have al := h.al
  have ul := up_len i b
  have pl := part_len gi x (Sm03.up i b)
  have po := part_out gi x (Sm03.up i b)
  have dl := adds_len acc (Sm03.part gi x (Sm03.up i b)).2 (Sm03.part gi x (Sm03.up i b)).1 0
  have hlen := h.len
  refine ⟨?_, ?_, by omega⟩
  · rw [h.eq, drop_at hx, muls_cons]
    rfl
  · rw [adds_out _ _ _ _ (by omega), al]
theorem MI.fin {g gi : Graph} {a b acc : List Nat} {i : Nat} (h : MI g a b i gi acc) (hi : a.length ≤ i) : Sm03.muls b.length b g a 0 (List.replicate a.length 0) = (gi, acc) := by
  rw [h.eq, List.drop_eq_nil_of_le hi]
  rfl
/-! ### quotients: pure -/
theorem divs_cons (b : List Nat) (g : Graph) (x : Nat) (l q r : List Nat) : Sm03.divs b g (x :: l) q r =
  Sm03.divs b (Sm03.muxes (Sm03.subs g (x :: r) (b ++ [0])).2.2 (Sm03.subs g (x :: r) (b ++ [0])).1 (Sm03.subs g (x :: r) (b ++ [0])).2.1 (x :: r)).1 l ((Sm03.subs g (x :: r) (b ++ [0])).2.2 :: q)
    ((Sm03.muxes (Sm03.subs g (x :: r) (b ++ [0])).2.2 (Sm03.subs g (x :: r) (b ++ [0])).1 (Sm03.subs g (x :: r) (b ++ [0])).2.1 (x :: r)).2.take b.length) := rfl
structure QI (g : Graph) (a b : List Nat) (i : Nat) (gi : Graph) (q r : List Nat) : Prop where
  eq : Sm03.divs b g a.reverse [] (List.replicate b.length 0) = Sm03.divs b gi (a.reverse.drop i) q r
  ql : q.length = i
  rl : r.length = b.length
  len : gi.length ≤ g.length + 200 * i
theorem QI.start {g : Graph} {a b : List Nat} : QI g a b 0 g [] (List.replicate b.length 0) := ⟨rfl, rfl, List.length_replicate .., Nat.le_refl _⟩
theorem QI.step {g gi : Graph} {a b q r : List Nat} {i x : Nat} (h : QI g a b i gi q r) (hx : a.reverse[i]? = some x) (h8 : b.length ≤ 8) :
    QI g a b (i + 1) (Sm03.muxes (Sm03.subs gi (x :: r) (b ++ [0])).2.2 (Sm03.subs gi (x :: r) (b ++ [0])).1 (Sm03.subs gi (x :: r) (b ++ [0])).2.1 (x :: r)).1 ((Sm03.subs gi (x :: r) (b ++ [0])).2.2 :: q)
      ((Sm03.muxes (Sm03.subs gi (x :: r) (b ++ [0])).2.2 (Sm03.subs gi (x :: r) (b ++ [0])).1 (Sm03.subs gi (x :: r) (b ++ [0])).2.1 (x :: r)).2.take b.length) := by
  have rl := h.rl
  have hlen := h.len
  have l1 : (x :: r).length = ((b ++ [0]).map Sm03.not_).length := by
    rw [List.length_map, List.length_append, List.length_cons, rl]
    rfl
  have so : (Sm03.subs gi (x :: r) (b ++ [0])).2.1.length = r.length + 1 := adds_out _ _ _ _ l1
  have sl : (Sm03.subs gi (x :: r) (b ++ [0])).1.length ≤ gi.length + 9 * (r.length + 1) := adds_len _ _ _ _
  have ml : (Sm03.muxes (Sm03.subs gi (x :: r) (b ++ [0])).2.2 (Sm03.subs gi (x :: r) (b ++ [0])).1 (Sm03.subs gi (x :: r) (b ++ [0])).2.1 (x :: r)).1.length ≤ (Sm03.subs gi (x :: r) (b ++ [0])).1.length + 3 * (Sm03.subs gi (x :: r) (b ++ [0])).2.1.length :=
    each2_len (c := 3) (fun g p q => mux_len g _ p q) _ _ _
  have mo : (Sm03.muxes (Sm03.subs gi (x :: r) (b ++ [0])).2.2 (Sm03.subs gi (x :: r) (b ++ [0])).1 (Sm03.subs gi (x :: r) (b ++ [0])).2.1 (x :: r)).2.length = (Sm03.subs gi (x :: r) (b ++ [0])).2.1.length :=
    each2_out _ _ _ (by rw [so]; rfl)
  refine ⟨?_, ?_, ?_, by omega⟩
  · rw [h.eq, drop_at hx, divs_cons]
  · rw [List.length_cons, h.ql]
  · rw [List.length_take, mo, so]
    omega
theorem QI.fin {g gi : Graph} {a b q r : List Nat} {i : Nat} (h : QI g a b i gi q r) (hi : a.length ≤ i) : Sm03.divs b g a.reverse [] (List.replicate b.length 0) = (gi, q, r) := by
  rw [h.eq, List.drop_eq_nil_of_le (by rw [List.length_reverse]; exact hi)]
  rfl
def fDiv (g : Graph) (a b : List Nat) : Graph × List Nat := ((Sm03.divs b g a.reverse [] (List.replicate b.length 0)).1, (Sm03.divs b g a.reverse [] (List.replicate b.length 0)).2.1 ++ (Sm03.divs b g a.reverse [] (List.replicate b.length 0)).2.2)
theorem divs_out : ∀ (b : List Nat) (l : List Nat) (g : Graph) (q r : List Nat), r.length = b.length → (Sm03.divs b g l q r).2.1.length = l.length + q.length
  | b, [], g, q, r, _ => by show q.length = 0 + q.length; omega
  | b, x :: l, g, q, r, h => by
    rw [divs_cons]
    have l1 : (x :: r).length = ((b ++ [0]).map Sm03.not_).length := by
      rw [List.length_map, List.length_append, List.length_cons, h]
      rfl
    have so : (Sm03.subs g (x :: r) (b ++ [0])).2.1.length = r.length + 1 := adds_out _ _ _ _ l1
    rw [divs_out b l]
    · rw [List.length_cons, List.length_cons]
      omega
    · rw [List.length_take]
      have mo : (Sm03.muxes (Sm03.subs g (x :: r) (b ++ [0])).2.2 (Sm03.subs g (x :: r) (b ++ [0])).1 (Sm03.subs g (x :: r) (b ++ [0])).2.1 (x :: r)).2.length = (Sm03.subs g (x :: r) (b ++ [0])).2.1.length := each2_out _ _ _ (by rw [so]; rfl)
      rw [mo, so]
      omega
/-- a comprehension over one word: one literal and each -/
theorem lc_part {K : PySem.W.Frag} {CG ga n k : Addr} {H0 : Hp} {g : Graph} {ws : List Nat} {x : Nat} {wi : TI} {te : TE} {σ : L2.St} {vs : List Nat} {i5 : Nat} {Q : VK}
    (hwi : ∀ R : It → Hp → Prop, (∀ la H, Same H0 H → Wd n H la ws → R (Itl K la) H) → wi σ H0 R) (hG0 : GAt CG ga n k H0 g) (h16 : ws.length ≤ 16) (hb : g.length + 16 ≤ LIM)
    (hw : ∀ y : Nat, wipe ((wipe σ vs).set i5 (some (.int (y : Int)))) vs = wipe σ vs)
    (turn : ∀ (y : Nat) (H1 : Hp) (gi : Graph) (R : VK), GAt CG ga n k H1 gi → gi.length + 1 ≤ LIM → (∀ H2, GAt CG ga n k H2 (Sm03.and_ gi x y).1 → Kp n k H1 H2 → R (.int ((Sm03.and_ gi x y).2 : Nat)) H2) →
      te ((wipe σ vs).set i5 (some (.int (y : Int)))) H1 R)
    (q0 : NewG CG ga n k H0 Q (Sm03.part g x ws)) : tLc wi (gName i5) tYes te vs σ H0 Q := by
  refine hwi _ fun la H s0 hA D hD => ?_
  have hG := hG0.mono s0
  have q := q0.same s0
  have dn : D ≠ n := hG.fresh_n hD
  have dk : D ≠ k := hG.fresh_k hD
  have hL : (16 : Nat) ≤ LIM := by decide
  refine lc_it (walk_list (K := K) (a := la) (xs := lits ws)) (fun i H1 => ∃ gi acc, EI Sm03.and_ 1 g (ws.map fun _ => x) ws i gi acc ∧ GAt CG ga n k H1 gi ∧ Kp n k H H1 ∧ H1 D = some (.lst (lits acc)))
    ⟨g, [], EI.start, hG.mono (same_upd hD), kp_of (same_upd hD), upd_same⟩ (fun i H1 _ ⟨gi, acc, _, hG1, k1, _⟩ => .inl (.inl (hA.kp hG k1).1)) ?_ ?_
  · rintro i v H0 H1 hi ⟨gi, acc, he, hG1, k1, e1⟩ ⟨rfl, hx'⟩
    obtain ⟨y, hy, rfl⟩ := lits_at hx'
    rw [lits_len] at hi
    have bl := he.len
    refine ⟨hw y, yes_of (if_true_of rfl ?_)⟩
    refine turn y _ gi _ hG1 (by omega) fun H2 hG2 k2 => ?_
    have e2 : H2 D = some (.lst (lits acc)) := k2 _ _ e1 dn dk
    refine ⟨_, e2, lim_lt (by rw [lits_len, he.al]; omega), _, _, he.step and_len (x := x) (by rw [List.getElem?_map, hy]; rfl) hy, hG2.updL e2 dn, kp_upd (k1.trans k2) hD, ?_⟩
    rw [upd_same, lits_app]
    rfl
  · rintro H1 ⟨gi, acc, he, hG1, k1, e1⟩
    have e : Sm03.part g x ws = (gi, acc) := he.fin (by rw [List.length_map, lits_len]; exact Nat.le_refl _)
    refine q D H1 ?_ k1 hD ?_
    · rw [e]; exact hG1
    · rw [e]; exact e1
theorem seq_of {t u : TS} {D : Ends} {σ : L2.St} {H : Hp} (h : t { D with nx := u D } σ H) : tSeq t u D σ H := h
theorem asg_of {te : TE} {g : TG} {D : Ends} {σ : L2.St} {H : Hp} (h : te σ H fun x H1 => g x σ H1 D.nx) : tAsg te g D σ H := h
/-! ### a local name that holds one of several defs -/
structure Hld (P : Program) (w : World) (K : PySem.W.Frag) (mg : Str → Option Value) (base : Heap) (k : Nat) (f : Addr) (sp : Sp) : Prop where
  ex : ∃ (fd : FuncData) (ps : List Str), FnOk P w K mg base CX0 k f fd ps sp ∧ PySem.W.keepIn K (.ref f) = true ∧ Binds K fd ps []
theorem Hld.mono {P : Program} {w : World} {K : PySem.W.Frag} {mg : Str → Option Value} {base : Heap} {j k : Nat} {f : Addr} {sp : Sp} (h : Hld P w K mg base j f sp) (l : j ≤ k) : Hld P w K mg base k f sp := by
  obtain ⟨fd, ps, F, a, b⟩ := h.ex
  exact ⟨fd, ps, F.mono l, a, b⟩
def tCallD (P : Program) (w : World) (K : PySem.W.Frag) (mg : Str → Option Value) (base : Heap) (k i : Nat) (t : TA) : TE := fun σ H Q => ∃ f sp, σ[i]? = some (some (.ref f)) ∧ Hld P w K mg base k f sp ∧ t σ H fun vs H1 => sp vs H1 Q E0
theorem pe_callD {X : Cx} {k i : Nat} {x : Str} {p pos : Pos} {e : Expr} {es : List Expr} {t : TA} (hr : Room k X.A) (hN : X.N[i]? = some x) (ha : PA X (e :: es) t)
    (hv : Vis X.env.scope x := by first | exact Or.inl rfl | exact Or.inr (Or.inl rfl) | exact Or.inr (Or.inr rfl)) (hdb : (x == ("__debug__" : Str)) = false := by decide) (hcd : (x == ("__classdict__" : Str)) = false := by decide)
    (he : starEach (e :: es) X.env = (false, eval e X.env) :: starEach es X.env := by rfl) (hpl : (backTo pos (starEach es X.env)).any (·.1) = false := by rfl) : PE X (.Call (.Name x p) (e :: es) [] pos) (tCallD X.prog X.w X.K X.mg X.base k i t) := by
  refine ⟨fun pins s σ H Q I h => ?_⟩
  obtain ⟨f, sp, hs, ⟨fd, ps, F, hk, hb⟩, ht⟩ := h
  refine (pe_callL (i := i) (f := f) (sp := sp) (dvs := []) (E := E0) F hr hN hv hk hb .nil pass0 ha hdb hcd he hpl).run pins s σ H Q I ⟨hs, ?_⟩
  have e0 : (fun (vs : List V) (H1 : Hp) => sp (vs ++ []) H1 Q E0) = fun vs H1 => sp vs H1 Q E0 := by
    funext vs H1
    rw [List.append_nil]
  show t σ H (fun vs H1 => sp (vs ++ []) H1 Q E0)
  rw [e0]
  exact ht
/-- a tuple that the top has written -/
def TupK (K : PySem.W.Frag) (a : Addr) (xs : List V) : Prop := ∀ H, SqT K H a xs
def spTwo (CG : Addr) : Sp := fun vs H Q _ => ∃ (ga n k aa ab : Addr) (g : Graph) (wh : Nat) (o : Sm03.Op) (a b : List Nat),
  vs = [.ref ga, .int wh, .ref aa, .ref ab] ∧ Sm03Neutral.opOf wh = some o ∧ GAt CG ga n k H g ∧ Wd n H aa a ∧ Wd n H ab b ∧ a.length = b.length ∧ 1 ≤ a.length ∧ a.length ≤ 8 ∧ g.length + 4000 ≤ LIM ∧ NewG CG ga n k H Q (fOp o g a b)
theorem pe_gr {X : Cx} {x : Str} {a : Addr} {pos : Pos} (h : X.mg x = some (.ref a)) (hg : Gl X x := by rfl) (hd : (x == ("__debug__" : Str)) = false := by decide) : PE X (.Name x pos) (tC (.ref a)) := pe_glob (v := .ref a) hg h rfl hd
end BC

set_option Elab.async false
set_option linter.all false
set_option maxRecDepth 100000
set_option maxHeartbeats 2000000
namespace BC
open PySem PySem.Spec PyProof.Rows L2
section
variable {P : Program} {w : World} {K : PySem.W.Frag} {mg : Str → Option Value} {base : Heap} {CG CS CW : Addr} {f : Addr} {fd : FuncData}
abbrev s_zeros : Stmt := top 27
abbrev N_zeros : List Str := ["width"]
theorem sc_zeros : FnScope N_zeros ["width"] (defScope s_zeros) := ⟨rfl, rfl, rfl, by decide +kernel, rfl, by decide +kernel, by decide +kernel⟩
theorem ok_zeros (F : Fun K "zeros" "zeros" s_zeros f fd) (g_NEVER : GI mg "NEVER" 0) : FnOk P w K mg base CX0 1 f fd ["width"] (spZeros) := by
  refine F.ok sc_zeros (fun vs H Q E h => ?_) (fun cdv A outer s H vs Q E hr h => ?_)
  · obtain ⟨_, rfl, _⟩ := h
    rfl
  · obtain ⟨m, rfl, hm, q⟩ := h
    have hu := hu_of hr
    refine ⟨_, (pss_one (ps_ret (pe_op op_rep (pe_lst (pa_cons (pe_gi g_NEVER) pa_nil)) (pv 0)))), ?_⟩
    have hM : m ≤ 100000 := hm
    refine ⟨(by show 1 ≤ sizeLine; decide), fun l hl => ?_⟩
    refine ⟨_, rfl, l, (m : Int), _, rfl, rfl, upd_same, by omega, by omega, ?_, fun p hp => ?_⟩
    · show 1 * (m : Int).toNat ≤ sizeLine
      rw [Nat.one_mul, Int.toNat_natCast]
      exact Nat.le_of_lt (lim_lt hm)
    · obtain ⟨hp, pl⟩ := free_upd hp
      refine q p _ (same_updN (same_upd hl) hp) hp ?_
      rw [upd_same, Int.toNat_natCast]
      show some (HO.lst (List.replicate m [V.int 0]).flatten) = some (.lst (lits (List.replicate m 0)))
      rw [flat_rep]
      unfold lits
      rw [List.map_replicate]
      rfl

abbrev s_opposites : Stmt := top 28
abbrev N_opposites : List Str := ["word", "x"]
theorem sc_opposites : FnScope N_opposites ["word"] (defScope s_opposites) := ⟨rfl, rfl, rfl, by decide +kernel, rfl, by decide +kernel, by decide +kernel⟩
theorem ok_opposites (F : Fun K "opposites" "opposites" s_opposites f fd) (D_opposite : DF P w K mg base 1 "opposite" (spOpp)) : FnOk P w K mg base CX0 2 f fd ["word"] (spOpps) := by
  refine F.ok sc_opposites (fun vs H Q E h => ?_) (fun cdv A outer s H vs Q E hr h => ?_)
  · obtain ⟨_, _, rfl, _⟩ := h
    rfl
  · obtain ⟨a, ws, rfl, hA, hm, q⟩ := h
    have hu := hu_of hr
    refine ⟨_, (pss_one (ps_ret (pe_lc (own := [("x", 1)]) (g := gName 1) (tt := tYes) rfl sc_opposites.nd (pi_list (pv 0)) (blkOk_by (N := N_opposites) (sc := defScope s_opposites) (by decide +kernel)) (fun _ _ _ _ _ => (pg_name (i := 1) sc_opposites.nd rfl (Or.inl rfl))) (fun _ _ _ _ _ => pts_nil) (fun _ _ _ _ _ => (pe_df D_opposite hr (pa_cons (pv 1) pa_nil)))))), ?_⟩
    refine ⟨_, rfl, a, rfl, ⟨_, .inl (.inl hA)⟩, fun D hD => ?_⟩
    refine lc_it (walk_list (K := K) (a := a) (xs := lits ws)) (fun i H' => Same H H' ∧ H' D = some (.lst (lits ((ws.map Sm03.not_).take i)))) ⟨same_upd hD, upd_same⟩ (fun i H' _ h => .inl (.inl (h.1 _ _ hA))) ?_ ?_
    · rintro i x H1 H2 hi ⟨s1, e1⟩ ⟨rfl, hx⟩
      obtain ⟨z, hz, rfl⟩ := lits_at hx
      have hi' : i < ws.length := by rw [lits_len] at hi; exact hi
      refine ⟨rfl, yes_of (if_true_of rfl ?_)⟩
      refine ⟨_, rfl, z, rfl, _, e1, lim_lt (by rw [lits_len, List.length_take, List.length_map]; omega), same_updN s1 hD, ?_⟩
      rw [upd_same, List.take_add_one, List.getElem?_map, hz, lits_app]
      rfl
    · rintro H1 ⟨s1, e1⟩
      refine q D H1 s1 hD ?_
      rw [lits_len, List.take_of_length_le (by rw [List.length_map]; exact Nat.le_refl _)] at e1
      exact e1

abbrev s_chosen_word : Stmt := top 29
abbrev N_chosen_word : List Str := ["gates", "c", "a", "b", "x", "y"]
theorem sc_chosen_word : FnScope N_chosen_word ["gates", "c", "a", "b"] (defScope s_chosen_word) := ⟨rfl, rfl, rfl, by decide +kernel, rfl, by decide +kernel, by decide +kernel⟩
theorem ok_chosen_word (F : Fun K "chosen_word" "chosen_word" s_chosen_word f fd) (b_zip : mg "zip" = none) (D_chosen : DM P w K mg base CG 4 "chosen" (sp3 CG 3 Sm03.mux)) : FnOk P w K mg base CX0 5 f fd ["gates", "c", "a", "b"] (spChW CG) := by
  refine F.ok sc_chosen_word (fun vs H Q E h => ?_) (fun cdv A outer s H vs Q E hr h => ?_)
  · obtain ⟨_, _, _, _, _, _, _, _, _, rfl, _⟩ := h
    rfl
  · obtain ⟨ga, n, k, aa, ab, g, c, a, b, rfl, hG, hA, hB, hl, h16, hm, q⟩ := h
    have hu := hu_of hr
    refine ⟨_, (pss_one (ps_ret (pe_lc (own := [("x", 4), ("y", 5)]) (g := gTup K 2 (gCons (gName 4) (gCons (gName 5) gNil))) (tt := tYes) rfl sc_chosen_word.nd (pi_zip (by rfl) b_zip (pa_cons (pv 2) (pa_cons (pv 3) pa_nil))) (blkOk_by (N := N_chosen_word) (sc := defScope s_chosen_word) (by decide +kernel)) (fun _ _ _ _ _ => (pg_tup rfl (pgs_cons (pg_name (i := 4) sc_chosen_word.nd rfl (Or.inl rfl)) (pgs_cons (pg_name (i := 5) sc_chosen_word.nd rfl (Or.inl rfl)) pgs_nil)))) (fun _ _ _ _ _ => pts_nil) (fun _ _ _ _ _ => (pe_dm (pv 0) D_chosen hr (pa_cons (pv 1) (pa_cons (pv 4) (pa_cons (pv 5) pa_nil)))))))), ?_⟩
    refine lc_each2 (f := fun g x y => Sm03.mux g c x y) (c := 3) (fun g x y => mux_len g c x y) (fun R h => ⟨_, rfl, _, rfl, aa, ab, _, _, rfl, .inl (.inl hA.1), .inl (.inl hB.1), h⟩) hG hA hB hl (by omega) (by omega) (fun _ _ => rfl) ?_ q
    intro x y H1 gi R hG1 hm1 r
    obtain ⟨dx, h1⟩ := hG1.ins
    exact ⟨_, rfl, ga, dx, _, rfl, h1, rfl, _, rfl, _, rfl, _, rfl, ga, n, k, gi, c, x, y, rfl, hG1, hm1, r⟩

abbrev s_word_and : Stmt := top 33
abbrev N_word_and : List Str := ["gates", "a", "b", "x", "y"]
theorem sc_word_and : FnScope N_word_and ["gates", "a", "b"] (defScope s_word_and) := ⟨rfl, rfl, rfl, by decide +kernel, rfl, by decide +kernel, by decide +kernel⟩
theorem ok_word_and (F : Fun K "word_and" "word_and" s_word_and f fd) (b_zip : mg "zip" = none) (D_both : DM P w K mg base CG 2 "both" (sp2 CG 1 Sm03.and_)) : FnOk P w K mg base CX0 3 f fd ["gates", "a", "b"] (spW2 CG 8 4000 (fOp .and)) := by
  refine F.ok sc_word_and (fun vs H Q E h => ?_) (fun cdv A outer s H vs Q E hr h => ?_)
  · obtain ⟨_, _, _, _, _, _, _, _, rfl, _⟩ := h
    rfl
  · obtain ⟨ga, n, k, aa, ab, g, a, b, rfl, hG, hA, hB, hl, h1, h16, hm, q⟩ := h
    have hu := hu_of hr
    refine ⟨_, (pss_one (ps_ret (pe_lc (own := [("x", 3), ("y", 4)]) (g := gTup K 2 (gCons (gName 3) (gCons (gName 4) gNil))) (tt := tYes) rfl sc_word_and.nd (pi_zip (by rfl) b_zip (pa_cons (pv 1) (pa_cons (pv 2) pa_nil))) (blkOk_by (N := N_word_and) (sc := defScope s_word_and) (by decide +kernel)) (fun _ _ _ _ _ => (pg_tup rfl (pgs_cons (pg_name (i := 3) sc_word_and.nd rfl (Or.inl rfl)) (pgs_cons (pg_name (i := 4) sc_word_and.nd rfl (Or.inl rfl)) pgs_nil)))) (fun _ _ _ _ _ => pts_nil) (fun _ _ _ _ _ => (pe_dm (pv 0) D_both hr (pa_cons (pv 3) (pa_cons (pv 4) pa_nil))))))), ?_⟩
    refine lc_each2 (f := Sm03.and_) (c := 1) and_len (fun R h => ⟨_, rfl, _, rfl, aa, ab, _, _, rfl, .inl (.inl hA.1), .inl (.inl hB.1), h⟩) hG hA hB hl (by omega) (by omega) (fun _ _ => rfl) ?_ q
    intro x y H1 gi R hG1 hm1 r
    obtain ⟨dx, h1⟩ := hG1.ins
    exact ⟨_, rfl, ga, dx, _, rfl, h1, rfl, _, rfl, _, rfl, ga, n, k, gi, x, y, rfl, hG1, hm1, r⟩

abbrev s_word_or : Stmt := top 34
abbrev N_word_or : List Str := ["gates", "a", "b", "x", "y"]
theorem sc_word_or : FnScope N_word_or ["gates", "a", "b"] (defScope s_word_or) := ⟨rfl, rfl, rfl, by decide +kernel, rfl, by decide +kernel, by decide +kernel⟩
theorem ok_word_or (F : Fun K "word_or" "word_or" s_word_or f fd) (b_zip : mg "zip" = none) (D_either : DM P w K mg base CG 3 "either" (sp2 CG 1 Sm03.or_)) : FnOk P w K mg base CX0 4 f fd ["gates", "a", "b"] (spW2 CG 8 4000 (fOp .or)) := by
  refine F.ok sc_word_or (fun vs H Q E h => ?_) (fun cdv A outer s H vs Q E hr h => ?_)
  · obtain ⟨_, _, _, _, _, _, _, _, rfl, _⟩ := h
    rfl
  · obtain ⟨ga, n, k, aa, ab, g, a, b, rfl, hG, hA, hB, hl, h1, h16, hm, q⟩ := h
    have hu := hu_of hr
    refine ⟨_, (pss_one (ps_ret (pe_lc (own := [("x", 3), ("y", 4)]) (g := gTup K 2 (gCons (gName 3) (gCons (gName 4) gNil))) (tt := tYes) rfl sc_word_or.nd (pi_zip (by rfl) b_zip (pa_cons (pv 1) (pa_cons (pv 2) pa_nil))) (blkOk_by (N := N_word_or) (sc := defScope s_word_or) (by decide +kernel)) (fun _ _ _ _ _ => (pg_tup rfl (pgs_cons (pg_name (i := 3) sc_word_or.nd rfl (Or.inl rfl)) (pgs_cons (pg_name (i := 4) sc_word_or.nd rfl (Or.inl rfl)) pgs_nil)))) (fun _ _ _ _ _ => pts_nil) (fun _ _ _ _ _ => (pe_dm (pv 0) D_either hr (pa_cons (pv 3) (pa_cons (pv 4) pa_nil))))))), ?_⟩
    refine lc_each2 (f := Sm03.or_) (c := 1) or_len (fun R h => ⟨_, rfl, _, rfl, aa, ab, _, _, rfl, .inl (.inl hA.1), .inl (.inl hB.1), h⟩) hG hA hB hl (by omega) (by omega) (fun _ _ => rfl) ?_ q
    intro x y H1 gi R hG1 hm1 r
    obtain ⟨dx, h1⟩ := hG1.ins
    exact ⟨_, rfl, ga, dx, _, rfl, h1, rfl, _, rfl, _, rfl, ga, n, k, gi, x, y, rfl, hG1, hm1, r⟩

abbrev s_word_xor : Stmt := top 35
abbrev N_word_xor : List Str := ["gates", "a", "b", "x", "y"]
theorem sc_word_xor : FnScope N_word_xor ["gates", "a", "b"] (defScope s_word_xor) := ⟨rfl, rfl, rfl, by decide +kernel, rfl, by decide +kernel, by decide +kernel⟩
theorem ok_word_xor (F : Fun K "word_xor" "word_xor" s_word_xor f fd) (b_zip : mg "zip" = none) (D_odd : DM P w K mg base CG 4 "odd" (sp2 CG 3 Sm03.xor_)) : FnOk P w K mg base CX0 5 f fd ["gates", "a", "b"] (spW2 CG 8 4000 (fOp .xor)) := by
  refine F.ok sc_word_xor (fun vs H Q E h => ?_) (fun cdv A outer s H vs Q E hr h => ?_)
  · obtain ⟨_, _, _, _, _, _, _, _, rfl, _⟩ := h
    rfl
  · obtain ⟨ga, n, k, aa, ab, g, a, b, rfl, hG, hA, hB, hl, h1, h16, hm, q⟩ := h
    have hu := hu_of hr
    refine ⟨_, (pss_one (ps_ret (pe_lc (own := [("x", 3), ("y", 4)]) (g := gTup K 2 (gCons (gName 3) (gCons (gName 4) gNil))) (tt := tYes) rfl sc_word_xor.nd (pi_zip (by rfl) b_zip (pa_cons (pv 1) (pa_cons (pv 2) pa_nil))) (blkOk_by (N := N_word_xor) (sc := defScope s_word_xor) (by decide +kernel)) (fun _ _ _ _ _ => (pg_tup rfl (pgs_cons (pg_name (i := 3) sc_word_xor.nd rfl (Or.inl rfl)) (pgs_cons (pg_name (i := 4) sc_word_xor.nd rfl (Or.inl rfl)) pgs_nil)))) (fun _ _ _ _ _ => pts_nil) (fun _ _ _ _ _ => (pe_dm (pv 0) D_odd hr (pa_cons (pv 3) (pa_cons (pv 4) pa_nil))))))), ?_⟩
    refine lc_each2 (f := Sm03.xor_) (c := 3) xor_len (fun R h => ⟨_, rfl, _, rfl, aa, ab, _, _, rfl, .inl (.inl hA.1), .inl (.inl hB.1), h⟩) hG hA hB hl (by omega) (by omega) (fun _ _ => rfl) ?_ q
    intro x y H1 gi R hG1 hm1 r
    obtain ⟨dx, h1⟩ := hG1.ins
    exact ⟨_, rfl, ga, dx, _, rfl, h1, rfl, _, rfl, _, rfl, ga, n, k, gi, x, y, rfl, hG1, hm1, r⟩

abbrev s_added : Stmt := top 30
abbrev N_added : List Str := ["gates", "a", "b", "carry", "bits", "x", "y", "d", "e", "f"]
theorem sc_added : FnScope N_added ["gates", "a", "b", "carry"] (defScope s_added) := ⟨rfl, rfl, rfl, by decide +kernel, rfl, by decide +kernel, by decide +kernel⟩
theorem ok_added (F : Fun K "added" "added" s_added f fd) (b_zip : mg "zip" = none) (D_odd : DM P w K mg base CG 4 "odd" (sp2 CG 3 Sm03.xor_)) (D_both : DM P w K mg base CG 2 "both" (sp2 CG 1 Sm03.and_)) (D_either : DM P w K mg base CG 3 "either" (sp2 CG 1 Sm03.or_)) : FnOk P w K mg base CX0 5 f fd ["gates", "a", "b", "carry"] (spAdded CG) := by
  refine F.ok sc_added (fun vs H Q E h => ?_) (fun cdv A outer s H vs Q E hr h => ?_)
  · obtain ⟨_, _, _, _, _, _, _, _, _, rfl, _⟩ := h
    rfl
  · obtain ⟨ga, n, k, aa, ab, g, a, b, c, rfl, hG, hA, hB, hl, h16, hm, q⟩ := h
    have hu := hu_of hr
    refine ⟨_, (pss_cons (ps_set (i := 4) sc_added.nd rfl (Or.inl rfl) (pe_lst pa_nil))
      (pss_cons (ps_for PassesOwn.never rfl (pi_zip (by rfl) b_zip (pa_cons (pv 1) (pa_cons (pv 2) pa_nil))) (pg_tup rfl (pgs_cons (pg_name (i := 5) sc_added.nd rfl (Or.inl rfl)) (pgs_cons (pg_name (i := 6) sc_added.nd rfl (Or.inl rfl)) pgs_nil)))
      (pss_cons (ps_set (i := 7) sc_added.nd rfl (Or.inl rfl) (pe_dm (pv 0) D_odd hr (pa_cons (pv 5) (pa_cons (pv 6) pa_nil))))
      (pss_cons (ps_expr (pe_bm PySem.F.plainAttrs_list PySem.F.slot_list_append PySem.F.type_list_append mt_append (pv 4) (pa_cons (pe_dm (pv 0) D_odd hr (pa_cons (pv 7) (pa_cons (pv 3) pa_nil))) pa_nil)))
      (pss_cons (ps_set (i := 8) sc_added.nd rfl (Or.inl rfl) (pe_dm (pv 0) D_both (hr.mono (by decide)) (pa_cons (pv 5) (pa_cons (pv 6) pa_nil))))
      (pss_cons (ps_set (i := 9) sc_added.nd rfl (Or.inl rfl) (pe_dm (pv 0) D_both (hr.mono (by decide)) (pa_cons (pv 7) (pa_cons (pv 3) pa_nil))))
      (pss_one (ps_set (i := 3) sc_added.nd rfl (Or.inl rfl) (pe_dm (pv 0) D_either (hr.mono (by decide)) (pa_cons (pv 8) (pa_cons (pv 9) pa_nil))))))))))
      (pss_one (ps_ret (pe_op op_cat (pv 4) (pe_lst (pa_cons (pv 3) pa_nil))))))), ?_⟩
    refine ⟨Nat.zero_le _, fun D hD => ?_⟩
    have dn : D ≠ n := hG.fresh_n hD
    have dk : D ≠ k := hG.fresh_k hD
    have hL : (16 : Nat) ≤ LIM := by decide
    have sD : Same H (upd H D (.lst [])) := same_upd hD
    refine ⟨_, rfl, _, rfl, aa, ab, _, _, rfl, .inl (.inl (hA.same sD).1), .inl (.inl (hB.same sD).1), ?_⟩
    refine for_it (walk_zip (K := K) (a := aa) (b := ab) (xs := lits a) (ys := lits b) (n := a.length) (by rw [lits_len, lits_len]; omega))
      (fun i σ H1 => ∃ gi ci acc v5 v6 v7 v8 v9, σ = [some (.ref ga), some (.ref aa), some (.ref ab), some (.int ((ci : Nat) : Int)), some (.ref D), v5, v6, v7, v8, v9] ∧ AI g c a b i gi ci acc ∧ GAt CG ga n k H1 gi ∧ Kp n k H H1 ∧ H1 D = some (.lst (lits acc)))
      ⟨g, c, [], none, none, none, none, none, rfl, AI.start, hG.mono sD, kp_of sD, upd_same⟩ (fun i σ H1 _ ⟨gi, ci, acc, _, _, _, _, _, _, _, hG1, k1, _⟩ => ⟨.inl (.inl (hA.kp hG k1).1), .inl (.inl (hB.kp hG k1).1)⟩) ?_ ?_
    · rintro i v σ H1 H2 hi ⟨gi, ci, acc, v5, v6, v7, v8, v9, rfl, he, hG1, k1, e1⟩ ⟨T, x', y', rfl, hT, rfl, hx', hy'⟩
      obtain ⟨x, hx, rfl⟩ := lits_at hx'
      obtain ⟨y, hy, rfl⟩ := lits_at hy'
      have bl := he.len
      have sT : Same H1 (upd H1 T (.tup [.int x, .int y])) := same_upd hT
      have hGT := hG1.mono sT
      have kT := k1.trans (kp_of sT)
      obtain ⟨dT, iT⟩ := hGT.ins
      refine ⟨T, [.int x, .int y], rfl, .inl (.inl upd_same), rfl, _, _, rfl, _, _, rfl, rfl, ?_⟩
      refine ⟨_, rfl, ga, dT, _, rfl, iT, rfl, _, rfl, _, rfl, ga, n, k, gi, x, y, rfl, hGT, by omega, fun H2 hG2 k2 => ?_⟩
      have e2 : H2 D = some (.lst (lits acc)) := k2 _ _ (sT _ _ e1) dn dk
      have l2 := bitP_len gi x y
      obtain ⟨d2, i2⟩ := hG2.ins
      refine ⟨_, rfl, .inl ⟨rfl, _, .inl (.inl e2)⟩, _, rfl, ga, d2, _, rfl, i2, rfl, _, rfl, _, rfl, ga, n, k, (bitP gi x y).1, (bitP gi x y).2, ci, rfl, hG2, by omega, fun H3 hG3 k3 => ?_⟩
      have e3 : H3 D = some (.lst (lits acc)) := k3 _ _ e2 dn dk
      have l3 := bitS_len gi ci x y
      refine ⟨D, _, _, rfl, rfl, e3, lim_lt (by rw [lits_len, he.al]; omega), ?_⟩
      have hG4 := hG3.updL (ys := lits acc ++ [.int ((bitS gi ci x y).2 : Nat)]) e3 dn
      have k4 : Kp n k H (upd H3 D (.lst (lits acc ++ [.int ((bitS gi ci x y).2 : Nat)]))) := kp_upd (kT.trans (k2.trans k3)) hD
      have e4 : (upd H3 D (.lst (lits acc ++ [.int ((bitS gi ci x y).2 : Nat)]))) D = some (.lst (lits (acc ++ [(bitS gi ci x y).2]))) := by rw [upd_same, lits_app]; rfl
      obtain ⟨d4, i4⟩ := hG4.ins
      refine ⟨_, rfl, ga, d4, _, rfl, i4, rfl, _, rfl, _, rfl, ga, n, k, (bitS gi ci x y).1, x, y, rfl, hG4, by omega, fun H5 hG5 k5 => ?_⟩
      have l5 := bitE_len gi ci x y
      obtain ⟨d5, i5⟩ := hG5.ins
      refine ⟨_, rfl, ga, d5, _, rfl, i5, rfl, _, rfl, _, rfl, ga, n, k, (bitE gi ci x y).1, (bitP gi x y).2, ci, rfl, hG5, by omega, fun H6 hG6 k6 => ?_⟩
      have l6 := bitF_len gi ci x y
      obtain ⟨d6, i6⟩ := hG6.ins
      refine ⟨_, rfl, ga, d6, _, rfl, i6, rfl, _, rfl, _, rfl, ga, n, k, (bitF gi ci x y).1, (bitE gi ci x y).2, (bitF gi ci x y).2, rfl, hG6, by omega, fun H7 hG7 k7 => ?_⟩
      refine ⟨(bitZ gi ci x y).1, (bitZ gi ci x y).2, acc ++ [(bitS gi ci x y).2], _, _, _, _, _, rfl, he.step hx hy, hG7, k4.trans (k5.trans (k6.trans k7)), ?_⟩
      exact k7 _ _ (k6 _ _ (k5 _ _ e4 dn dk) dn dk) dn dk
    · rintro σ H1 ⟨gi, ci, acc, v5, v6, v7, v8, v9, rfl, he, hG1, k1, e1⟩
      have e := he.fin (Nat.le_refl _)
      refine ⟨_, rfl, _, rfl, (by show 1 ≤ sizeLine; decide), fun l hl' => ?_⟩
      have sl : Same H1 (upd H1 l (.lst [.int ((ci : Nat) : Int)])) := same_upd hl'
      refine ⟨D, l, _, _, rfl, rfl, sl _ _ e1, upd_same, ?_, fun p hp => ?_⟩
      · rw [lits_len, he.al]
        exact Nat.le_of_lt (lim_lt (show a.length + 1 ≤ LIM by omega))
      · have r := newG_of (p := p) q hG (H1 := upd H1 l (.lst [.int ((ci : Nat) : Int)])) (by unfold addsL; rw [e]; exact hG1.mono sl) (k1.trans (kp_of sl)) hp
        unfold addsL at r
        rw [e, lits_app] at r
        exact r

abbrev s_taken : Stmt := top 31
abbrev N_taken : List Str := ["gates", "a", "b"]
theorem sc_taken : FnScope N_taken ["gates", "a", "b"] (defScope s_taken) := ⟨rfl, rfl, rfl, by decide +kernel, rfl, by decide +kernel, by decide +kernel⟩
theorem ok_taken (F : Fun K "taken" "taken" s_taken f fd) (D_added : DF P w K mg base 5 "added" (spAdded CG)) (g_ALWAYS : GI mg "ALWAYS" 1) (D_opposites : DF P w K mg base 2 "opposites" (spOpps)) : FnOk P w K mg base CX0 6 f fd ["gates", "a", "b"] (spW2 CG 16 144 subsL) := by
  refine F.ok sc_taken (fun vs H Q E h => ?_) (fun cdv A outer s H vs Q E hr h => ?_)
  · obtain ⟨_, _, _, _, _, _, _, _, rfl, _⟩ := h
    rfl
  · obtain ⟨ga, n, k, aa, ab, g, a, b, rfl, hG, hA, hB, hl, h1, h16, hm, q⟩ := h
    have hu := hu_of hr
    refine ⟨_, (pss_one (ps_ret (pe_df D_added hr (pa_cons (pv 0) (pa_cons (pv 1) (pa_cons (pe_df D_opposites (hr.mono (by decide)) (pa_cons (pv 2) pa_nil)) (pa_cons (pe_gi g_ALWAYS) pa_nil))))))), ?_⟩
    have hL : (16 : Nat) ≤ LIM := by decide
    refine ⟨_, rfl, _, rfl, _, rfl, ab, b, rfl, hB.1, by omega, fun p H1 s1 hp e1 => ?_⟩
    exact ⟨ga, n, k, aa, p, g, a, b.map Sm03.not_, 1, rfl, hG.mono s1, hA.same s1, ⟨e1, hG.fresh_n hp⟩, by rw [List.length_map]; exact hl, h16, hm, q.same s1⟩

abbrev s_word_neg : Stmt := top 32
abbrev N_word_neg : List Str := ["gates", "a"]
theorem sc_word_neg : FnScope N_word_neg ["gates", "a"] (defScope s_word_neg) := ⟨rfl, rfl, rfl, by decide +kernel, rfl, by decide +kernel, by decide +kernel⟩
theorem ok_word_neg (F : Fun K "word_neg" "word_neg" s_word_neg f fd) (D_taken : DF P w K mg base 6 "taken" (spW2 CG 16 144 subsL)) (D_zeros : DF P w K mg base 1 "zeros" (spZeros)) (b_len : mg "len" = none) : FnOk P w K mg base CX0 7 f fd ["gates", "a"] (spW1 CG 8 4000 fNeg) := by
  refine F.ok sc_word_neg (fun vs H Q E h => ?_) (fun cdv A outer s H vs Q E hr h => ?_)
  · obtain ⟨_, _, _, _, _, _, rfl, _⟩ := h
    rfl
  · obtain ⟨ga, n, k, aa, g, a, rfl, hG, hA, h1, h8, hm, q⟩ := h
    have hu := hu_of hr
    refine ⟨_, (pss_one (ps_ret (pe_slice sl_list (pe_df D_taken hr (pa_cons (pv 0) (pa_cons (pe_df D_zeros (hr.mono (by decide)) (pa_cons (pe_callB call_len_seq (by rfl) b_len PySem.boot_len (pa_cons (pv 1) pa_nil)) pa_nil)) (pa_cons (pv 1) pa_nil)))) po_none (po_some (pe_un un_neg pe_int))))), ?_⟩
    have hL : (16 : Nat) ≤ LIM := by decide
    refine ⟨_, rfl, _, rfl, aa, _, rfl, .inl (.inl (.inl hA.1)), a.length, by rw [lits_len]; rfl, by omega, fun p H1 s1 hp e1 => ?_⟩
    refine ⟨_, rfl, ga, n, k, p, aa, g, List.replicate a.length 0, a, rfl, hG.mono s1, ⟨e1, hG.fresh_n hp⟩, hA.same s1, List.length_replicate .., by rw [List.length_replicate]; exact h1, by rw [List.length_replicate]; omega, by omega, fun p2 H2 hG2 k2 hp2 e2 => ?_⟩
    refine ⟨1, rfl, -1, rfl, p2, _, rfl, .inl (.inl e2), fun p3 hp3 => ?_⟩
    have r := newG_of (p := p3) q hG (by rw [fNeg, noes_eq]; exact hG2) ((kp_of s1).trans k2) hp3
    rw [fNeg, noes_eq] at r
    show Q (.ref p3) (upd H2 p3 (.lst (cutV (lits (_ ++ [_])) none (some (-1)))))
    rw [cut_m1]
    exact r
end
end BC

set_option Elab.async false
set_option linter.all false
set_option maxRecDepth 100000
set_option maxHeartbeats 2000000
namespace BC
open PySem PySem.Spec PyProof.Rows L2
section
variable {P : Program} {w : World} {K : PySem.W.Frag} {mg : Str → Option Value} {base : Heap} {CG CS CW : Addr} {f : Addr} {fd : FuncData}
abbrev s_word_add : Stmt := top 36
abbrev N_word_add : List Str := ["gates", "a", "b"]
theorem sc_word_add : FnScope N_word_add ["gates", "a", "b"] (defScope s_word_add) := ⟨rfl, rfl, rfl, by decide +kernel, rfl, by decide +kernel, by decide +kernel⟩
theorem ok_word_add (F : Fun K "word_add" "word_add" s_word_add f fd) (D_added : DF P w K mg base 5 "added" (spAdded CG)) (g_NEVER : GI mg "NEVER" 0) : FnOk P w K mg base CX0 6 f fd ["gates", "a", "b"] (spW2 CG 8 4000 (fOp .add)) := by
  refine F.ok sc_word_add (fun vs H Q E h => ?_) (fun cdv A outer s H vs Q E hr h => ?_)
  · obtain ⟨_, _, _, _, _, _, _, _, rfl, _⟩ := h
    rfl
  · obtain ⟨ga, n, k, aa, ab, g, a, b, rfl, hG, hA, hB, hl, h1, h8, hm, q⟩ := h
    have hu := hu_of hr
    refine ⟨_, (pss_one (ps_ret (pe_slice sl_list (pe_df D_added hr (pa_cons (pv 0) (pa_cons (pv 1) (pa_cons (pv 2) (pa_cons (pe_gi g_NEVER) pa_nil))))) po_none (po_some (pe_un un_neg pe_int))))), ?_⟩
    refine ⟨_, rfl, _, rfl, _, rfl, ga, n, k, aa, ab, g, a, b, 0, rfl, hG, hA, hB, hl, by omega, by omega, fun p2 H2 hG2 k2 hp2 e2 => ?_⟩
    refine ⟨1, rfl, -1, rfl, p2, _, rfl, .inl (.inl e2), fun p3 hp3 => ?_⟩
    have r := newG_of (p := p3) q hG hG2 k2 hp3
    show Q (.ref p3) (upd H2 p3 (.lst (cutV (lits (_ ++ [_])) none (some (-1)))))
    rw [cut_m1]
    exact r

abbrev s_word_sub : Stmt := top 37
abbrev N_word_sub : List Str := ["gates", "a", "b"]
theorem sc_word_sub : FnScope N_word_sub ["gates", "a", "b"] (defScope s_word_sub) := ⟨rfl, rfl, rfl, by decide +kernel, rfl, by decide +kernel, by decide +kernel⟩
theorem ok_word_sub (F : Fun K "word_sub" "word_sub" s_word_sub f fd) (D_taken : DF P w K mg base 6 "taken" (spW2 CG 16 144 subsL)) : FnOk P w K mg base CX0 7 f fd ["gates", "a", "b"] (spW2 CG 8 4000 (fOp .sub)) := by
  refine F.ok sc_word_sub (fun vs H Q E h => ?_) (fun cdv A outer s H vs Q E hr h => ?_)
  · obtain ⟨_, _, _, _, _, _, _, _, rfl, _⟩ := h
    rfl
  · obtain ⟨ga, n, k, aa, ab, g, a, b, rfl, hG, hA, hB, hl, h1, h8, hm, q⟩ := h
    have hu := hu_of hr
    refine ⟨_, (pss_one (ps_ret (pe_slice sl_list (pe_df D_taken hr (pa_cons (pv 0) (pa_cons (pv 1) (pa_cons (pv 2) pa_nil)))) po_none (po_some (pe_un un_neg pe_int))))), ?_⟩
    refine ⟨_, rfl, _, rfl, _, rfl, ga, n, k, aa, ab, g, a, b, rfl, hG, hA, hB, hl, h1, by omega, by omega, fun p2 H2 hG2 k2 hp2 e2 => ?_⟩
    refine ⟨1, rfl, -1, rfl, p2, _, rfl, .inl (.inl e2), fun p3 hp3 => ?_⟩
    have r := newG_of (p := p3) q hG hG2 k2 hp3
    show Q (.ref p3) (upd H2 p3 (.lst (cutV (lits (_ ++ [_])) none (some (-1)))))
    rw [cut_m1]
    exact r

abbrev s_moved_up : Stmt := top 38
abbrev N_moved_up : List Str := ["word", "step"]
theorem sc_moved_up : FnScope N_moved_up ["word", "step"] (defScope s_moved_up) := ⟨rfl, rfl, rfl, by decide +kernel, rfl, by decide +kernel, by decide +kernel⟩
theorem ok_moved_up (F : Fun K "moved_up" "moved_up" s_moved_up f fd) (D_zeros : DF P w K mg base 1 "zeros" (spZeros)) (b_len : mg "len" = none) : FnOk P w K mg base CX0 2 f fd ["word", "step"] (spUp) := by
  refine F.ok sc_moved_up (fun vs H Q E h => ?_) (fun cdv A outer s H vs Q E hr h => ?_)
  · obtain ⟨_, _, _, rfl, _⟩ := h
    rfl
  · obtain ⟨a, ws, m, rfl, hA, hl, hm, q⟩ := h
    have hu := hu_of hr
    refine ⟨_, (pss_one (ps_ret (pe_slice sl_list (pe_op op_cat (pe_df D_zeros hr (pa_cons (pv 1) pa_nil)) (pv 0)) po_none (po_some (pe_callB call_len_seq (by rfl) b_len PySem.boot_len (pa_cons (pv 0) pa_nil)))))), ?_⟩
    have hL : (1000 : Nat) ≤ LIM := by decide
    refine ⟨_, rfl, m, rfl, by omega, fun p H1 s1 hp e1 => ?_⟩
    refine ⟨_, rfl, p, a, _, _, rfl, rfl, e1, s1 _ _ hA, ?_, fun p2 hp2 => ?_⟩
    · rw [lits_len, lits_len, List.length_replicate]
      exact Nat.le_of_lt (lim_lt (show m + ws.length ≤ LIM from Nat.le_trans (Nat.add_le_add hm hl) (by decide)))
    have s2 := s1.trans (same_upd (o := .lst (lits (List.replicate m 0) ++ lits ws)) hp2)
    refine ⟨_, rfl, a, _, rfl, .inl (.inl (.inl (s2 _ _ hA))), _, rfl, p2, _, rfl, .inl (.inl upd_same), fun p3 hp3 => ?_⟩
    rw [← lits_app] at s2 hp3
    rw [cut_to, ← lits_app, lits_take, lits_len]
    exact new_of q s2 hp3

abbrev s_moved_down : Stmt := top 39
abbrev N_moved_down : List Str := ["word", "step", "fill"]
theorem sc_moved_down : FnScope N_moved_down ["word", "step", "fill"] (defScope s_moved_down) := ⟨rfl, rfl, rfl, by decide +kernel, rfl, by decide +kernel, by decide +kernel⟩
theorem ok_moved_down (F : Fun K "moved_down" "moved_down" s_moved_down f fd) : FnOk P w K mg base CX0 1 f fd ["word", "step", "fill"] (spDown) := by
  refine F.ok sc_moved_down (fun vs H Q E h => ?_) (fun cdv A outer s H vs Q E hr h => ?_)
  · obtain ⟨_, _, _, _, rfl, _⟩ := h
    rfl
  · obtain ⟨a, ws, m, z, rfl, hA, hl, hm, q⟩ := h
    have hu := hu_of hr
    refine ⟨_, (pss_one (ps_ret (pe_slice sl_list (pe_op op_cat (pv 0) (pe_op op_rep (pe_lst (pa_cons (pv 2) pa_nil)) (pv 1))) (po_some (pv 1)) po_none))), ?_⟩
    have hL : (1000 : Nat) ≤ LIM := by decide
    refine ⟨_, rfl, _, rfl, (by show 1 ≤ sizeLine; decide), fun l hl0 => ?_⟩
    have s0 := same_upd (o := .lst [.int ((z : Nat) : Int)]) hl0
    refine ⟨_, rfl, l, (m : Int), _, rfl, rfl, upd_same, by omega, by omega, ?_, fun p hp => ?_⟩
    · show 1 * (m : Int).toNat ≤ sizeLine
      rw [Nat.one_mul, Int.toNat_natCast]
      exact Nat.le_of_lt (lim_lt (by omega))
    have e0 : (List.replicate (m : Int).toNat [V.int ((z : Nat) : Int)]).flatten = lits (List.replicate m z) := by
      rw [Int.toNat_natCast, flat_rep]
      unfold lits
      rw [List.map_replicate]
    rw [e0]
    have s1 := s0.trans (same_upd (o := .lst (lits (List.replicate m z))) hp)
    refine ⟨a, p, _, _, rfl, rfl, s1 _ _ hA, upd_same, ?_, fun p2 hp2 => ?_⟩
    · rw [lits_len, lits_len, List.length_replicate]
      exact Nat.le_of_lt (lim_lt (show ws.length + m ≤ LIM from Nat.le_trans (Nat.add_le_add hl hm) (by decide)))
    have s2 := s1.trans (same_upd (o := .lst (lits ws ++ lits (List.replicate m z))) hp2)
    refine ⟨_, rfl, _, rfl, p2, _, rfl, .inl (.inl upd_same), fun p3 hp3 => ?_⟩
    rw [← lits_app] at s2 hp3
    rw [cut_from, ← lits_app, lits_drop, down_eq]
    exact new_of q s2 hp3

abbrev s_word_shl : Stmt := top 44
abbrev N_word_shl : List Str := ["gates", "a", "b", "word", "step", "x"]
theorem sc_word_shl : FnScope N_word_shl ["gates", "a", "b"] (defScope s_word_shl) := ⟨rfl, rfl, rfl, by decide +kernel, rfl, by decide +kernel, by decide +kernel⟩
theorem ok_word_shl (F : Fun K "word_shl" "word_shl" s_word_shl f fd) (D_chosen_word : DF P w K mg base 5 "chosen_word" (spChW CG)) (D_moved_up : DF P w K mg base 2 "moved_up" (spUp)) : FnOk P w K mg base CX0 6 f fd ["gates", "a", "b"] (spW2 CG 8 4000 (fOp .shl)) := by
  refine F.ok sc_word_shl (fun vs H Q E h => ?_) (fun cdv A outer s H vs Q E hr h => ?_)
  · obtain ⟨_, _, _, _, _, _, _, _, rfl, _⟩ := h
    rfl
  · obtain ⟨ga, n, k, aa, ab, g, a, b, rfl, hG, hA, hB, hl, h1, h8, hm, q⟩ := h
    have hu := hu_of hr
    refine ⟨_, (pss_cons (ps_set (i := 3) sc_word_shl.nd rfl (Or.inl rfl) (pv 1))
      (pss_cons (ps_set (i := 4) sc_word_shl.nd rfl (Or.inl rfl) pe_int)
      (pss_cons (ps_for PassesOwn.never rfl (pi_list (pv 2)) (pg_name (i := 5) sc_word_shl.nd rfl (Or.inl rfl))
      (pss_cons (ps_set (i := 3) sc_word_shl.nd rfl (Or.inl rfl) (pe_df D_chosen_word hr (pa_cons (pv 0) (pa_cons (pv 5) (pa_cons (pe_df D_moved_up (hr.mono (by decide)) (pa_cons (pv 3) (pa_cons (pv 4) pa_nil))) (pa_cons (pv 3) pa_nil))))))
      (pss_one (ps_set (i := 4) sc_word_shl.nd rfl (Or.inl rfl) (pe_op op_mul (pv 4) pe_int)))))
      (pss_one (ps_ret (pv 3)))))), ?_⟩
    refine ⟨_, rfl, ?_⟩
    refine ⟨_, rfl, ab, rfl, ⟨_, .inl (.inl hB.1)⟩, ?_⟩
    refine for_it (walk_list (K := K) (a := ab) (xs := lits b))
      (fun i σ H1 => ∃ gi ws pw v5, σ = [some (.ref ga), some (.ref aa), some (.ref ab), some (.ref pw), some (.int ((2 ^ i : Nat) : Int)), v5] ∧ VI Sm03.up g b a i gi ws ∧ GAt CG ga n k H1 gi ∧ Kp n k H H1 ∧ Wd n H1 pw ws ∧ (i ≠ 0 → H pw = none))
      ⟨g, a, aa, none, rfl, VI.start, hG, Kp.refl, hA, fun z => (z rfl).elim⟩ (fun i σ H1 _ ⟨gi, ws, pw, v5, _, _, hG1, k1, _, _⟩ => .inl (.inl (hB.kp hG k1).1)) ?_ ?_
    · rintro i v σ H1 H2 hi ⟨gi, ws, pw, v5, rfl, he, hG1, k1, hW, hn⟩ ⟨rfl, hx'⟩
      obtain ⟨x, hx, rfl⟩ := lits_at hx'
      rw [lits_len] at hi
      have p2 : 2 ^ i ≤ 128 := Nat.le_trans (Nat.pow_le_pow_right (by decide) (show i ≤ 7 by omega)) (by decide)
      have bl := he.len
      refine ⟨_, rfl, _, rfl, _, rfl, _, rfl, pw, ws, 2 ^ i, rfl, hW.1, by have := he.wl; omega, by omega, fun p H2 s2 hp e2 => ?_⟩
      refine ⟨_, rfl, ga, n, k, p, pw, gi, x, Sm03.up (2 ^ i) ws, ws, rfl, hG1.mono s2, ⟨e2, hG1.fresh_n hp⟩, hW.same s2, up_len _ _, by rw [up_len, he.wl]; omega, by omega, fun p3 H3 hG3 k3 hp3 e3 => ?_⟩
      refine ⟨_, rfl, _, _, rfl, rfl, .inr ⟨by decide, by decide⟩, ?_⟩
      have hf : H p3 = none := kp_free k1 hG (s2.free hp3) (hG1.fresh_n (s2.free hp3)) (hG1.fresh_k (s2.free hp3))
      refine ⟨_, _, p3, some (.int (x : Int)), ?_, he.step up_len hx h8, hG3, k1.trans ((kp_of s2).trans k3), ⟨e3, (hG.fresh_n hf)⟩, fun _ => hf⟩
      show [_, _, _, _, some (V.int (((2 ^ i : Nat) : Int) * 2)), _] = [_, _, _, _, some (V.int ((2 ^ (i + 1) : Nat) : Int)), _]
      rw [show (((2 ^ i : Nat) : Int) * 2) = ((2 ^ (i + 1) : Nat) : Int) by rw [Nat.pow_succ]; omega]
    · rintro σ H1 ⟨gi, ws, pw, v5, rfl, he, hG1, k1, hW, hn⟩
      have e := he.fin (by rw [lits_len]; exact Nat.le_refl _)
      refine ⟨_, rfl, q pw H1 ?_ k1 (hn (by rw [lits_len]; omega)) ?_⟩
      · show GAt CG ga n k H1 (Sm03.moves Sm03.up g b 1 a).1
        rw [e]; exact hG1
      · show H1 pw = some (.lst (lits (Sm03.moves Sm03.up g b 1 a).2))
        rw [e]; exact hW.1

abbrev s_stepped_down : Stmt := top 45
abbrev N_stepped_down : List Str := ["gates", "a", "b", "with_sign", "word", "step", "x", "fill"]
theorem sc_stepped_down : FnScope N_stepped_down ["gates", "a", "b", "with_sign"] (defScope s_stepped_down) := ⟨rfl, rfl, rfl, by decide +kernel, rfl, by decide +kernel, by decide +kernel⟩
theorem ok_stepped_down (F : Fun K "stepped_down" "stepped_down" s_stepped_down f fd) (g_NEVER : GI mg "NEVER" 0) (D_chosen_word : DF P w K mg base 5 "chosen_word" (spChW CG)) (D_moved_down : DF P w K mg base 1 "moved_down" (spDown)) : FnOk P w K mg base CX0 6 f fd ["gates", "a", "b", "with_sign"] (spStep CG) := by
  refine F.ok sc_stepped_down (fun vs H Q E h => ?_) (fun cdv A outer s H vs Q E hr h => ?_)
  · obtain ⟨_, _, _, _, _, _, _, _, _, rfl, _⟩ := h
    rfl
  · obtain ⟨ga, n, k, aa, ab, g, a, b, sg, rfl, hG, hA, hB, hl, h1, h8, hm, q⟩ := h
    have hu := hu_of hr
    refine ⟨_, (pss_cons (ps_set (i := 4) sc_stepped_down.nd rfl (Or.inl rfl) (pv 1))
      (pss_cons (ps_set (i := 5) sc_stepped_down.nd rfl (Or.inl rfl) pe_int)
      (pss_cons (ps_for PassesOwn.never rfl (pi_list (pv 2)) (pg_name (i := 6) sc_stepped_down.nd rfl (Or.inl rfl))
      (pss_cons (ps_set (i := 7) sc_stepped_down.nd rfl (Or.inl rfl) (pe_ifExp (pt_val (pv 3)) (pe_ix ix_list (pv 4) (pe_un un_neg pe_int) (fun _ _ => rfl)) (pe_gi g_NEVER)))
      (pss_cons (ps_set (i := 4) sc_stepped_down.nd rfl (Or.inl rfl) (pe_df D_chosen_word hr (pa_cons (pv 0) (pa_cons (pv 6) (pa_cons (pe_df D_moved_down (hr.mono (by decide)) (pa_cons (pv 4) (pa_cons (pv 5) (pa_cons (pv 7) pa_nil)))) (pa_cons (pv 4) pa_nil))))))
      (pss_one (ps_set (i := 5) sc_stepped_down.nd rfl (Or.inl rfl) (pe_op op_mul (pv 5) pe_int))))))
      (pss_one (ps_ret (pv 4)))))), ?_⟩
    refine ⟨_, rfl, ?_⟩
    refine ⟨_, rfl, ab, rfl, ⟨_, .inl (.inl hB.1)⟩, ?_⟩
    refine for_it (walk_list (K := K) (a := ab) (xs := lits b))
      (fun i σ H1 => ∃ gi ws pw v6 v7, σ = [some (.ref ga), some (.ref aa), some (.ref ab), some (.bl sg), some (.ref pw), some (.int ((2 ^ i : Nat) : Int)), v6, v7] ∧ VI (downS sg) g b a i gi ws ∧ GAt CG ga n k H1 gi ∧ Kp n k H H1 ∧ Wd n H1 pw ws ∧ (i ≠ 0 → H pw = none))
      ⟨g, a, aa, none, none, rfl, VI.start, hG, Kp.refl, hA, fun z => (z rfl).elim⟩ (fun i σ H1 _ ⟨gi, ws, pw, v6, v7, _, _, hG1, k1, _, _⟩ => .inl (.inl (hB.kp hG k1).1)) ?_ ?_
    · rintro i v σ H0 H1 hi ⟨gi, ws, pw, v6, v7, rfl, he, hG1, k1, hW, hn⟩ ⟨rfl, hx'⟩
      obtain ⟨x, hx, rfl⟩ := lits_at hx'
      rw [lits_len] at hi
      have p2 : 2 ^ i ≤ 128 := Nat.le_trans (Nat.pow_le_pow_right (by decide) (show i ≤ 7 by omega)) (by decide)
      have bl := he.len
      have wl := he.wl
      refine tIf_known (.int ((if sg = true then Sm03.last ws else 0 : Nat) : Int)) (fun R r => ?_) ?_
      · refine ⟨_, rfl, _, rfl, ?_⟩
        cases sg with
        | true => exact if_true_of rfl ⟨_, rfl, 1, rfl, pw, _, _, _, rfl, rfl, .inl (.inl hW.1), at_last ws (by omega), r⟩
        | false => exact if_false_of rfl r
      generalize hz : (if sg = true then Sm03.last ws else 0) = z
      refine ⟨_, rfl, _, rfl, _, rfl, _, rfl, _, rfl, pw, ws, 2 ^ i, z, rfl, hW.1, by omega, by omega, fun p H2 s2 hp e2 => ?_⟩
      have dl : (Sm03.down z (2 ^ i) ws).length = ws.length := down_len _ _ _
      refine ⟨_, rfl, ga, n, k, p, pw, gi, x, Sm03.down z (2 ^ i) ws, ws, rfl, hG1.mono s2, ⟨e2, hG1.fresh_n hp⟩, hW.same s2, dl, by omega, by omega, fun p3 H3 hG3 k3 hp3 e3 => ?_⟩
      refine ⟨_, rfl, _, _, rfl, rfl, .inr ⟨by decide, by decide⟩, ?_⟩
      have hf : H p3 = none := kp_free k1 hG (s2.free hp3) (hG1.fresh_n (s2.free hp3)) (hG1.fresh_k (s2.free hp3))
      have hst := he.step (downS_len sg) hx h8
      rw [show downS sg (2 ^ i) ws = Sm03.down z (2 ^ i) ws by unfold downS; rw [hz]] at hst
      refine ⟨_, _, p3, some (.int (x : Int)), some (.int (z : Int)), ?_, hst, hG3, k1.trans ((kp_of s2).trans k3), ⟨e3, (hG.fresh_n hf)⟩, fun _ => hf⟩
      show [_, _, _, _, _, some (V.int (((2 ^ i : Nat) : Int) * 2)), _, _] = [_, _, _, _, _, some (V.int ((2 ^ (i + 1) : Nat) : Int)), _, _]
      rw [show (((2 ^ i : Nat) : Int) * 2) = ((2 ^ (i + 1) : Nat) : Int) by rw [Nat.pow_succ]; omega]
    · rintro σ H1 ⟨gi, ws, pw, v6, v7, rfl, he, hG1, k1, hW, hn⟩
      have e := he.fin (by rw [lits_len]; exact Nat.le_refl _)
      refine ⟨_, rfl, q pw H1 ?_ k1 (hn (by rw [lits_len]; omega)) ?_⟩
      · rw [e]; exact hG1
      · rw [e]; exact hW.1

abbrev s_word_shr : Stmt := top 46
abbrev N_word_shr : List Str := ["gates", "a", "b"]
theorem sc_word_shr : FnScope N_word_shr ["gates", "a", "b"] (defScope s_word_shr) := ⟨rfl, rfl, rfl, by decide +kernel, rfl, by decide +kernel, by decide +kernel⟩
theorem ok_word_shr (F : Fun K "word_shr" "word_shr" s_word_shr f fd) (D_stepped_down : DF P w K mg base 6 "stepped_down" (spStep CG)) : FnOk P w K mg base CX0 7 f fd ["gates", "a", "b"] (spW2 CG 8 4000 (fOp .shr)) := by
  refine F.ok sc_word_shr (fun vs H Q E h => ?_) (fun cdv A outer s H vs Q E hr h => ?_)
  · obtain ⟨_, _, _, _, _, _, _, _, rfl, _⟩ := h
    rfl
  · obtain ⟨ga, n, k, aa, ab, g, a, b, rfl, hG, hA, hB, hl, h1, h8, hm, q⟩ := h
    have hu := hu_of hr
    refine ⟨_, (pss_one (ps_ret (pe_df D_stepped_down hr (pa_cons (pv 0) (pa_cons (pv 1) (pa_cons (pv 2) (pa_cons pe_bl pa_nil))))))), ?_⟩
    exact ⟨_, rfl, _, rfl, _, rfl, ga, n, k, aa, ab, g, a, b, false, rfl, hG, hA, hB, hl, h1, h8, hm, q⟩

abbrev s_word_sar : Stmt := top 47
abbrev N_word_sar : List Str := ["gates", "a", "b"]
theorem sc_word_sar : FnScope N_word_sar ["gates", "a", "b"] (defScope s_word_sar) := ⟨rfl, rfl, rfl, by decide +kernel, rfl, by decide +kernel, by decide +kernel⟩
theorem ok_word_sar (F : Fun K "word_sar" "word_sar" s_word_sar f fd) (D_stepped_down : DF P w K mg base 6 "stepped_down" (spStep CG)) : FnOk P w K mg base CX0 7 f fd ["gates", "a", "b"] (spW2 CG 8 4000 (fOp .sar)) := by
  refine F.ok sc_word_sar (fun vs H Q E h => ?_) (fun cdv A outer s H vs Q E hr h => ?_)
  · obtain ⟨_, _, _, _, _, _, _, _, rfl, _⟩ := h
    rfl
  · obtain ⟨ga, n, k, aa, ab, g, a, b, rfl, hG, hA, hB, hl, h1, h8, hm, q⟩ := h
    have hu := hu_of hr
    refine ⟨_, (pss_one (ps_ret (pe_df D_stepped_down hr (pa_cons (pv 0) (pa_cons (pv 1) (pa_cons (pv 2) (pa_cons pe_bl pa_nil))))))), ?_⟩
    exact ⟨_, rfl, _, rfl, _, rfl, ga, n, k, aa, ab, g, a, b, true, rfl, hG, hA, hB, hl, h1, h8, hm, q⟩

abbrev s_word_eq : Stmt := top 48
abbrev N_word_eq : List Str := ["gates", "a", "b", "differences", "so_far", "x"]
theorem sc_word_eq : FnScope N_word_eq ["gates", "a", "b"] (defScope s_word_eq) := ⟨rfl, rfl, rfl, by decide +kernel, rfl, by decide +kernel, by decide +kernel⟩
theorem ok_word_eq (F : Fun K "word_eq" "word_eq" s_word_eq f fd) (D_word_xor : DF P w K mg base 5 "word_xor" (spW2 CG 8 4000 (fOp .xor))) (g_ALWAYS : GI mg "ALWAYS" 1) (D_both : DM P w K mg base CG 2 "both" (sp2 CG 1 Sm03.and_)) (D_opposite : DF P w K mg base 1 "opposite" (spOpp)) : FnOk P w K mg base CX0 6 f fd ["gates", "a", "b"] (spW2 CG 8 4000 (fOp .eq)) := by
  refine F.ok sc_word_eq (fun vs H Q E h => ?_) (fun cdv A outer s H vs Q E hr h => ?_)
  · obtain ⟨_, _, _, _, _, _, _, _, rfl, _⟩ := h
    rfl
  · obtain ⟨ga, n, k, aa, ab, g, a, b, rfl, hG, hA, hB, hl, h1, h8, hm, q⟩ := h
    have hu := hu_of hr
    refine ⟨_, (pss_cons (ps_set (i := 3) sc_word_eq.nd rfl (Or.inl rfl) (pe_df D_word_xor hr (pa_cons (pv 0) (pa_cons (pv 1) (pa_cons (pv 2) pa_nil)))))
      (pss_cons (ps_set (i := 4) sc_word_eq.nd rfl (Or.inl rfl) (pe_gi g_ALWAYS))
      (pss_cons (ps_for PassesOwn.never rfl (pi_list (pv 3)) (pg_name (i := 5) sc_word_eq.nd rfl (Or.inl rfl))
      (pss_one (ps_set (i := 4) sc_word_eq.nd rfl (Or.inl rfl) (pe_dm (pv 0) D_both (hr.mono (by decide)) (pa_cons (pv 4) (pa_cons (pe_df D_opposite (hr.mono (by decide)) (pa_cons (pv 5) pa_nil)) pa_nil))))))
      (pss_one (ps_ret (pe_lst (pa_cons (pv 4) pa_nil))))))), ?_⟩
    refine ⟨_, rfl, _, rfl, _, rfl, ga, n, k, aa, ab, g, a, b, rfl, hG, hA, hB, hl, h1, h8, hm, fun pd H1 hG1 k1 hpd e1 => ?_⟩
    have xl : (Sm03.each2 Sm03.xor_ g a b).1.length ≤ g.length + 3 * a.length := each2_len xor_len a b g
    have xo : (Sm03.each2 Sm03.xor_ g a b).2.length = a.length := each2_out a b g hl
    have pn : pd ≠ n := hG.fresh_n hpd
    have hGx : GAt CG ga n k H1 (Sm03.each2 Sm03.xor_ g a b).1 := hG1
    have ex : H1 pd = some (.lst (lits (Sm03.each2 Sm03.xor_ g a b).2)) := e1
    generalize hX : Sm03.each2 Sm03.xor_ g a b = X at xl xo hGx ex
    have hWd : Wd n H1 pd X.2 := ⟨ex, pn⟩
    refine ⟨_, rfl, pd, rfl, ⟨_, .inl (.inl ex)⟩, ?_⟩
    refine for_it (walk_list (K := K) (a := pd) (xs := lits X.2))
      (fun i σ H2 => ∃ gi z v5, σ = [some (.ref ga), some (.ref aa), some (.ref ab), some (.ref pd), some (.int ((z : Nat) : Int)), v5] ∧ LI X.1 X.2 i gi z ∧ GAt CG ga n k H2 gi ∧ Kp n k H1 H2)
      ⟨X.1, 1, none, rfl, LI.start, hGx, Kp.refl⟩ (fun i σ H2 _ ⟨gi, z, v5, _, _, hG2, k2⟩ => .inl (.inl (hWd.kp hGx k2).1)) ?_ ?_
    · rintro i v σ H2 H3 hi ⟨gi, z, v5, rfl, he, hG2, k2⟩ ⟨rfl, hx'⟩
      obtain ⟨x, hx, rfl⟩ := lits_at hx'
      rw [lits_len] at hi
      obtain ⟨d2, i2⟩ := hG2.ins
      have bl := he.len
      refine ⟨_, rfl, ga, d2, _, rfl, i2, rfl, _, rfl, _, rfl, x, rfl, ga, n, k, gi, z, Sm03.not_ x, rfl, hG2, by omega, fun H3 hG3 k3 => ?_⟩
      exact ⟨_, _, _, rfl, he.step hx, hG3, k2.trans k3⟩
    · rintro σ H2 ⟨gi, z, v5, rfl, he, hG2, k2⟩
      have e := he.fin (by rw [lits_len]; exact Nat.le_refl _)
      have ee : fOp .eq g a b = (gi, [z]) := by
        show ((Sm03.alls (Sm03.each2 Sm03.xor_ g a b).1 1 ((Sm03.each2 Sm03.xor_ g a b).2.map Sm03.not_)).1, [(Sm03.alls (Sm03.each2 Sm03.xor_ g a b).1 1 ((Sm03.each2 Sm03.xor_ g a b).2.map Sm03.not_)).2]) = _
        rw [hX, e]
      rw [ee] at q
      exact ⟨_, rfl, (by show 1 ≤ sizeLine; decide), fun p hp => newG_of q hG hG2 (k1.trans k2) hp⟩

abbrev s_word_ult : Stmt := top 49
abbrev N_word_ult : List Str := ["gates", "a", "b"]
theorem sc_word_ult : FnScope N_word_ult ["gates", "a", "b"] (defScope s_word_ult) := ⟨rfl, rfl, rfl, by decide +kernel, rfl, by decide +kernel, by decide +kernel⟩
theorem ok_word_ult (F : Fun K "word_ult" "word_ult" s_word_ult f fd) (D_opposite : DF P w K mg base 1 "opposite" (spOpp)) (D_taken : DF P w K mg base 6 "taken" (spW2 CG 16 144 subsL)) : FnOk P w K mg base CX0 7 f fd ["gates", "a", "b"] (spW2 CG 8 4000 (fOp .ult)) := by
  refine F.ok sc_word_ult (fun vs H Q E h => ?_) (fun cdv A outer s H vs Q E hr h => ?_)
  · obtain ⟨_, _, _, _, _, _, _, _, rfl, _⟩ := h
    rfl
  · obtain ⟨ga, n, k, aa, ab, g, a, b, rfl, hG, hA, hB, hl, h1, h8, hm, q⟩ := h
    have hu := hu_of hr
    refine ⟨_, (pss_one (ps_ret (pe_lst (pa_cons (pe_df D_opposite (hr.mono (by decide)) (pa_cons (pe_ix ix_list (pe_df D_taken hr (pa_cons (pv 0) (pa_cons (pv 1) (pa_cons (pv 2) pa_nil)))) (pe_un un_neg pe_int) (fun _ _ => rfl)) pa_nil)) pa_nil)))), ?_⟩
    refine ⟨_, rfl, _, rfl, _, rfl, ga, n, k, aa, ab, g, a, b, rfl, hG, hA, hB, hl, h1, by omega, by omega, fun p H1 hG1 k1 hp e1 => ?_⟩
    refine ⟨1, rfl, p, _, _, _, rfl, rfl, .inl (.inl e1), at_m1 _ _, _, rfl, (by show 1 ≤ sizeLine; decide), fun p2 hp2 => ?_⟩
    exact newG_of q hG hG1 k1 hp2

abbrev s_sign_turned : Stmt := top 50
abbrev N_sign_turned : List Str := ["word"]
theorem sc_sign_turned : FnScope N_sign_turned ["word"] (defScope s_sign_turned) := ⟨rfl, rfl, rfl, by decide +kernel, rfl, by decide +kernel, by decide +kernel⟩
theorem ok_sign_turned (F : Fun K "sign_turned" "sign_turned" s_sign_turned f fd) (D_opposite : DF P w K mg base 1 "opposite" (spOpp)) : FnOk P w K mg base CX0 2 f fd ["word"] (spTurned) := by
  refine F.ok sc_sign_turned (fun vs H Q E h => ?_) (fun cdv A outer s H vs Q E hr h => ?_)
  · obtain ⟨_, _, rfl, _⟩ := h
    rfl
  · obtain ⟨a, ws, rfl, hA, h1, h8, q⟩ := h
    have hu := hu_of hr
    refine ⟨_, (pss_one (ps_ret (pe_op op_cat (pe_slice sl_list (pv 0) po_none (po_some (pe_un un_neg pe_int))) (pe_lst (pa_cons (pe_df D_opposite hr (pa_cons (pe_ix ix_list (pv 0) (pe_un un_neg pe_int) (fun _ _ => rfl)) pa_nil)) pa_nil))))), ?_⟩
    obtain ⟨us, z, rfl⟩ := snoc_of h1
    have hL : (16 : Nat) ≤ LIM := by decide
    refine ⟨_, rfl, 1, rfl, -1, rfl, a, _, rfl, .inl (.inl hA), fun p hp => ?_⟩
    have s1 := same_upd (o := .lst (cutV (lits (us ++ [z])) none (some (-1)))) hp
    refine ⟨_, rfl, 1, rfl, a, _, _, _, rfl, rfl, .inl (.inl (s1 _ _ hA)), at_m1 _ _, z, rfl, (by show 1 ≤ sizeLine; decide), fun p2 hp2 => ?_⟩
    have s2 := s1.trans (same_upd (o := .lst [.int ((Sm03.not_ z : Nat) : Int)]) hp2)
    refine ⟨p, p2, _, _, rfl, rfl, (same_upd hp2) _ _ upd_same, upd_same, ?_, fun p3 hp3 => ?_⟩
    · rw [cut_m1, lits_len]
      rw [List.length_append] at h8
      exact Nat.le_of_lt (lim_lt (show us.length + 1 ≤ LIM from Nat.le_trans h8 hL))
    rw [cut_m1] at s2 hp3 ⊢
    have r := new_of (p := p3) q s2 hp3
    rw [turned_eq, lits_app] at r
    exact r

abbrev s_word_slt : Stmt := top 51
abbrev N_word_slt : List Str := ["gates", "a", "b"]
theorem sc_word_slt : FnScope N_word_slt ["gates", "a", "b"] (defScope s_word_slt) := ⟨rfl, rfl, rfl, by decide +kernel, rfl, by decide +kernel, by decide +kernel⟩
theorem ok_word_slt (F : Fun K "word_slt" "word_slt" s_word_slt f fd) (D_word_ult : DF P w K mg base 7 "word_ult" (spW2 CG 8 4000 (fOp .ult))) (D_sign_turned : DF P w K mg base 2 "sign_turned" (spTurned)) : FnOk P w K mg base CX0 8 f fd ["gates", "a", "b"] (spW2 CG 8 4000 (fOp .slt)) := by
  refine F.ok sc_word_slt (fun vs H Q E h => ?_) (fun cdv A outer s H vs Q E hr h => ?_)
  · obtain ⟨_, _, _, _, _, _, _, _, rfl, _⟩ := h
    rfl
  · obtain ⟨ga, n, k, aa, ab, g, a, b, rfl, hG, hA, hB, hl, h1, h8, hm, q⟩ := h
    have hu := hu_of hr
    refine ⟨_, (pss_one (ps_ret (pe_df D_word_ult hr (pa_cons (pv 0) (pa_cons (pe_df D_sign_turned (hr.mono (by decide)) (pa_cons (pv 1) pa_nil)) (pa_cons (pe_df D_sign_turned (hr.mono (by decide)) (pa_cons (pv 2) pa_nil)) pa_nil)))))), ?_⟩
    refine ⟨_, rfl, _, rfl, aa, a, rfl, hA.1, h1, by omega, fun p H1 s1 hp e1 => ?_⟩
    refine ⟨_, rfl, ab, b, rfl, s1 _ _ hB.1, by omega, by omega, fun p2 H2 s2 hp2 e2 => ?_⟩
    have s12 := s1.trans s2
    have ta := turned_len a h1
    have tb := turned_len b (by omega)
    exact ⟨ga, n, k, p, p2, g, Sm03.turned a, Sm03.turned b, rfl, hG.mono s12, ⟨s2 _ _ e1, hG.fresh_n hp⟩, ⟨e2, hG.fresh_n (s1.free hp2)⟩, by omega, by omega, by omega, hm, q.same s12⟩
end
end BC

set_option Elab.async false
set_option linter.all false
set_option maxRecDepth 100000
set_option maxHeartbeats 2000000
namespace BC
open PySem PySem.Spec PyProof.Rows L2
section
variable {P : Program} {w : World} {K : PySem.W.Frag} {mg : Str → Option Value} {base : Heap} {CG CS CW : Addr} {f : Addr} {fd : FuncData}
abbrev s_word_mul : Stmt := top 40
abbrev N_word_mul : List Str := ["gates", "a", "b", "so_far", "i", "x", "masked", "y"]
theorem sc_word_mul : FnScope N_word_mul ["gates", "a", "b"] (defScope s_word_mul) := ⟨rfl, rfl, rfl, by decide +kernel, rfl, by decide +kernel, by decide +kernel⟩
theorem ok_word_mul (F : Fun K "word_mul" "word_mul" s_word_mul f fd) (D_zeros : DF P w K mg base 1 "zeros" (spZeros)) (b_len : mg "len" = none) (b_enumerate : mg "enumerate" = none) (D_moved_up : DF P w K mg base 2 "moved_up" (spUp)) (D_both : DM P w K mg base CG 2 "both" (sp2 CG 1 Sm03.and_)) (D_added : DF P w K mg base 5 "added" (spAdded CG)) (g_NEVER : GI mg "NEVER" 0) : FnOk P w K mg base CX0 6 f fd ["gates", "a", "b"] (spW2 CG 8 4000 (fOp .mul)) := by
  refine F.ok sc_word_mul (fun vs H Q E h => ?_) (fun cdv A outer s H vs Q E hr h => ?_)
  · obtain ⟨_, _, _, _, _, _, _, _, rfl, _⟩ := h
    rfl
  · obtain ⟨ga, n, k, aa, ab, g, a, b, rfl, hG, hA, hB, hl, h1, h8, hm, q⟩ := h
    have hu := hu_of hr
    refine ⟨_, (pss_cons (ps_set (i := 3) sc_word_mul.nd rfl (Or.inl rfl) (pe_df D_zeros (hr.mono (by decide)) (pa_cons (pe_callB call_len_seq (by rfl) b_len PySem.boot_len (pa_cons (pv 1) pa_nil)) pa_nil)))
      (pss_cons (ps_for PassesOwn.never rfl (pi_enum (by rfl) b_enumerate (pa_cons (pv 1) pa_nil)) (pg_tup rfl (pgs_cons (pg_name (i := 4) sc_word_mul.nd rfl (Or.inl rfl)) (pgs_cons (pg_name (i := 5) sc_word_mul.nd rfl (Or.inr rfl)) pgs_nil)))
      (pss_cons (ps_setLc (i := 6) (own := [("y", 7)]) (g := gName 7) (tt := tYes) rfl sc_word_mul.nd rfl rfl (sw_true rfl rfl rfl (by decide +kernel)) (pi_list (pe_df D_moved_up (hr.mono (by decide)) (pa_cons (pv 2) (pa_cons (pv 4) pa_nil)))) (blkOk_by (N := N_word_mul) (sc := defScope s_word_mul) (by decide +kernel)) (fun _ _ _ _ _ => (pg_name (i := 7) sc_word_mul.nd rfl (Or.inl rfl))) (fun _ _ _ _ _ => pts_nil) (fun _ _ _ _ _ => (pe_dm (pv 0) D_both (hr.mono (by decide)) (pa_cons (pv 5) (pa_cons (pv 7) pa_nil)))))
      (pss_one (ps_set (i := 3) sc_word_mul.nd rfl (Or.inl rfl) (pe_slice sl_list (pe_df D_added hr (pa_cons (pv 0) (pa_cons (pv 3) (pa_cons (pv 6) (pa_cons (pe_gi g_NEVER) pa_nil))))) po_none (po_some (pe_un un_neg pe_int)))))))
      (pss_one (ps_ret (pv 3))))), ?_⟩
    have hL : (16 : Nat) ≤ LIM := by decide
    refine ⟨_, rfl, aa, _, rfl, .inl (.inl (.inl hA.1)), a.length, by rw [lits_len]; rfl, by omega, fun pz H1 s1 hpz e1 => ?_⟩
    refine ⟨_, rfl, aa, _, rfl, .inl (.inl (s1 _ _ hA.1)), ?_⟩
    refine for_it (walk_enum (K := K) (a := aa) (xs := lits a))
      (fun i σ H2 => ∃ gi acc ps v4 v5 v6, σ = [some (.ref ga), some (.ref aa), some (.ref ab), some (.ref ps), v4, v5, v6, none] ∧ MI g a b i gi acc ∧ GAt CG ga n k H2 gi ∧ Kp n k H H2 ∧ H2 ps = some (.lst (lits acc)) ∧ H ps = none)
      ⟨g, _, pz, none, none, none, rfl, MI.start hl, hG.mono s1, kp_of s1, e1, hpz⟩ (fun i σ H2 _ ⟨gi, acc, ps, v4, v5, v6, _, _, _, k2, _, _⟩ => .inl (.inl (hA.kp hG k2).1)) ?_ ?_
    · rintro i v σ H2 H3 hi ⟨gi, acc, ps, v4, v5, v6, rfl, he, hG2, k2, e2, hps⟩ ⟨T, x', y', rfl, hT, rfl, hx', hy'⟩
      obtain rfl : V.int (i : Nat) = x' := Option.some.inj hx'
      obtain ⟨x, hx, rfl⟩ := lits_at hy'
      rw [lits_len] at hi
      have bl := he.len
      have al := he.al
      have pn : ps ≠ n := hG.fresh_n hps
      have pk : ps ≠ k := hG.fresh_k hps
      have sT : Same H2 (upd H2 T (.tup [.int (i : Nat), .int x])) := same_upd hT
      have hGT := hG2.mono sT
      have kT := k2.trans (kp_of sT)
      have hBT := hB.kp hG kT
      refine ⟨T, [.int (i : Nat), .int x], rfl, .inl (.inl upd_same), rfl, _, _, rfl, _, _, rfl, rfl, ?_⟩
      have ul := up_len i b
      have pl := part_len gi x (Sm03.up i b)
      have po := part_out gi x (Sm03.up i b)
      refine seq_of (asg_of ?_)
      refine lc_part (K := K) (x := x) (ws := Sm03.up i b) (fun R r => ⟨_, rfl, _, rfl, ab, b, i, rfl, hBT.1, by omega, by omega, fun pu H3 s3 hpu e3 => ⟨pu, rfl, ⟨_, .inl (.inl e3)⟩, r pu H3 s3 ⟨e3, hGT.fresh_n hpu⟩⟩⟩) hGT (by omega) (by omega) (fun _ => rfl) ?_ ?_
      · intro y H4 gj R hG4 hm4 r
        obtain ⟨dx, h4⟩ := hG4.ins
        exact ⟨_, rfl, ga, dx, _, rfl, h4, rfl, _, rfl, _, rfl, ga, n, k, gj, x, y, rfl, hG4, hm4, r⟩
      intro pm H4 hG4 k4 hpm e4
      have k14 := kT.trans k4
      have pmf : H pm = none := kp_free kT hG hpm (hGT.fresh_n hpm) (hGT.fresh_k hpm)
      have e24 : H4 ps = some (.lst (lits acc)) := k4 _ _ (sT _ _ e2) pn pk
      refine ⟨_, rfl, _, rfl, _, rfl, ga, n, k, ps, pm, _, acc, (Sm03.part gi x (Sm03.up i b)).2, 0, rfl, hG4, ⟨e24, pn⟩, ⟨e4, hG.fresh_n pmf⟩, by omega, by omega, by omega, fun p5 H5 hG5 k5 hp5 e5 => ?_⟩
      refine ⟨1, rfl, -1, rfl, p5, _, rfl, .inl (.inl e5), fun p6 hp6 => ?_⟩
      have e6 : cutV (lits (addsL (Sm03.part gi x (Sm03.up i b)).1 0 acc (Sm03.part gi x (Sm03.up i b)).2).2) none (some (-1)) = lits (Sm03.adds (Sm03.part gi x (Sm03.up i b)).1 0 acc (Sm03.part gi x (Sm03.up i b)).2).2.1 := cut_m1 _ _
      rw [e6]
      have p6f : H p6 = none := kp_free (k14.trans k5) hG hp6 (hG5.fresh_n hp6) (hG5.fresh_k hp6)
      exact ⟨_, _, p6, _, _, _, rfl, he.step hx (by omega), hG5.mono (same_upd hp6), (k14.trans k5).trans (kp_of (same_upd hp6)), upd_same, p6f⟩
    · rintro σ H2 ⟨gi, acc, ps, v4, v5, v6, rfl, he, hG2, k2, e2, hps⟩
      have e := he.fin (by rw [lits_len]; exact Nat.le_refl _)
      have ee : fOp .mul g a b = (gi, acc) := by
        show Sm03.muls a.length b g a 0 (Sm03.noes a) = _
        rw [noes_eq, ← e, hl]
      refine ⟨_, rfl, q ps H2 ?_ k2 hps ?_⟩
      · rw [ee]; exact hG2
      · rw [ee]; exact e2

abbrev s_divided : Stmt := top 41
abbrev N_divided : List Str := ["gates", "a", "b", "quotient", "rest", "x", "t", "left", "k"]
theorem sc_divided : FnScope N_divided ["gates", "a", "b"] (defScope s_divided) := ⟨rfl, rfl, rfl, by decide +kernel, rfl, by decide +kernel, by decide +kernel⟩
theorem ok_divided (F : Fun K "divided" "divided" s_divided f fd) (D_zeros : DF P w K mg base 1 "zeros" (spZeros)) (b_len : mg "len" = none) (b_reversed : mg "reversed" = none) (D_taken : DF P w K mg base 6 "taken" (spW2 CG 16 144 subsL)) (g_NEVER : GI mg "NEVER" 0) (D_chosen_word : DF P w K mg base 5 "chosen_word" (spChW CG)) : FnOk P w K mg base CX0 7 f fd ["gates", "a", "b"] (spW2 CG 8 4000 fDiv) := by
  refine F.ok sc_divided (fun vs H Q E h => ?_) (fun cdv A outer s H vs Q E hr h => ?_)
  · obtain ⟨_, _, _, _, _, _, _, _, rfl, _⟩ := h
    rfl
  · obtain ⟨ga, n, k, aa, ab, g, a, b, rfl, hG, hA, hB, hl, h1, h8, hm, q⟩ := h
    have hu := hu_of hr
    refine ⟨_, (pss_cons (ps_set (i := 3) sc_divided.nd rfl (Or.inl rfl) (pe_lst pa_nil))
      (pss_cons (ps_set (i := 4) sc_divided.nd rfl (Or.inl rfl) (pe_df D_zeros (hr.mono (by decide)) (pa_cons (pe_callB call_len_seq (by rfl) b_len PySem.boot_len (pa_cons (pv 2) pa_nil)) pa_nil)))
      (pss_cons (ps_for PassesOwn.never rfl (pi_reversed (by rfl) b_reversed (pa_cons (pv 1) pa_nil)) (pg_name (i := 5) sc_divided.nd rfl (Or.inl rfl))
      (pss_cons (ps_set (i := 6) sc_divided.nd rfl (Or.inl rfl) (pe_op op_cat (pe_lst (pa_cons (pv 5) pa_nil)) (pv 4)))
      (pss_cons (ps_set (i := 7) sc_divided.nd rfl (Or.inl rfl) (pe_df D_taken hr (pa_cons (pv 0) (pa_cons (pv 6) (pa_cons (pe_op op_cat (pv 2) (pe_lst (pa_cons (pe_gi g_NEVER) pa_nil))) pa_nil)))))
      (pss_cons (ps_set (i := 8) sc_divided.nd rfl (Or.inl rfl) (pe_ix ix_list (pv 7) (pe_un un_neg pe_int) (fun _ _ => rfl)))
      (pss_cons (ps_set (i := 3) sc_divided.nd rfl (Or.inl rfl) (pe_op op_cat (pe_lst (pa_cons (pv 8) pa_nil)) (pv 3)))
      (pss_one (ps_set (i := 4) sc_divided.nd rfl (Or.inl rfl) (pe_slice sl_list (pe_df D_chosen_word (hr.mono (by decide)) (pa_cons (pv 0) (pa_cons (pv 8) (pa_cons (pe_slice sl_list (pv 7) po_none (po_some (pe_un un_neg pe_int))) (pa_cons (pv 6) pa_nil))))) po_none (po_some (pe_callB call_len_seq (by rfl) b_len PySem.boot_len (pa_cons (pv 2) pa_nil)))))))))))
      (pss_one (ps_ret (pe_op op_cat (pv 3) (pv 4))))))), ?_⟩
    have hL : (16 : Nat) ≤ LIM := by decide
    refine ⟨Nat.zero_le _, fun pq hpq => ?_⟩
    have s0 := same_upd (o := .lst []) hpq
    refine ⟨_, rfl, ab, _, rfl, .inl (.inl (.inl (s0 _ _ hB.1))), b.length, by rw [lits_len]; rfl, by omega, fun pz H1 s1 hpz e1 => ?_⟩
    have s01 := s0.trans s1
    refine ⟨_, rfl, aa, _, rfl, .inl (.inl (s01 _ _ hA.1)), ?_⟩
    refine for_it (walk_rev (K := K) (a := aa) (xs := lits a))
      (fun i σ H2 => ∃ gi qs rs pq pr v5 v6 v7 v8, σ = [some (.ref ga), some (.ref aa), some (.ref ab), some (.ref pq), some (.ref pr), v5, v6, v7, v8] ∧ QI g a b i gi qs rs ∧ GAt CG ga n k H2 gi ∧ Kp n k H H2 ∧ Wd n H2 pq qs ∧ Wd n H2 pr rs)
      ⟨g, _, _, pq, pz, none, none, none, none, rfl, QI.start, hG.mono s01, kp_of s01, ⟨s1 _ _ upd_same, hG.fresh_n hpq⟩, ⟨e1, (hG.mono s0).fresh_n hpz⟩⟩
      (fun i σ H2 _ ⟨gi, qs, rs, pq, pr, v5, v6, v7, v8, _, _, _, k2, _, _⟩ => .inl (.inl (hA.kp hG k2).1)) ?_ ?_
    · rintro i v σ H0 H2 hi ⟨gi, qs, rs, pq, pr, v5, v6, v7, v8, rfl, he, hG2, k2, hQ, hR⟩ ⟨rfl, hx'⟩
      obtain ⟨x, hx, rfl⟩ := lits_at hx'
      rw [lits_len] at hx hi
      have hxr : a.reverse[i]? = some x := by rw [List.getElem?_reverse hi]; exact hx
      have bl := he.len
      have rl := he.rl
      have ql := he.ql
      -- t = [x] + rest
      refine ⟨_, rfl, (by show 1 ≤ sizeLine; decide), fun l1 hl1 => ?_⟩
      have t1 := same_upd (o := .lst [.int (x : Int)]) hl1
      refine ⟨_, rfl, l1, pr, _, _, rfl, rfl, upd_same, t1 _ _ hR.1, ?_, fun pt hpt => ?_⟩
      · show 1 + (lits rs).length ≤ sizeLine
        rw [lits_len]
        exact Nat.le_of_lt (lim_lt (by omega))
      have t2 := t1.trans (same_upd (o := .lst (lits (x :: rs))) hpt)
      have et : (upd (upd H2 l1 (.lst [.int (x : Int)])) pt (.lst (lits (x :: rs)))) pt = some (.lst (lits (x :: rs))) := upd_same
      have hG3 := hG2.mono t2
      have k3 := k2.trans (kp_of t2)
      have ptn : pt ≠ n := (hG2.mono t1).fresh_n hpt
      have ptk : pt ≠ k := (hG2.mono t1).fresh_k hpt
      show _
      generalize hH3 : upd (upd H2 l1 (.lst [.int (x : Int)])) pt (.lst (lits (x :: rs))) = H3 at t2 et hG3 k3
      have hH3' : upd (upd H2 l1 (.lst [.int (x : Int)])) pt (.lst ([.int (x : Int)] ++ lits rs)) = H3 := hH3
      rw [hH3']
      -- left = taken(gates, t, b + [NEVER])
      have hB3 := hB.kp hG k3
      refine ⟨_, rfl, _, rfl, _, rfl, (by show 1 ≤ sizeLine; decide), fun l2 hl2 => ?_⟩
      have t4 := same_upd (o := .lst [.int (0 : Int)]) hl2
      refine ⟨ab, l2, _, _, rfl, rfl, t4 _ _ hB3.1, upd_same, ?_, fun pb hpb => ?_⟩
      · show (lits b).length + 1 ≤ sizeLine
        rw [lits_len]
        exact Nat.le_of_lt (lim_lt (by omega))
      have eb0 : lits b ++ [.int (0 : Int)] = lits (b ++ [0]) := by rw [lits_app]; rfl
      rw [eb0]
      have t5 := t4.trans (same_upd (o := .lst (lits (b ++ [0]))) hpb)
      have hG5 := hG3.mono t5
      have pbn : pb ≠ n := (hG3.mono t4).fresh_n hpb
      have l9 : (x :: rs).length = (b ++ [0]).length := by rw [List.length_cons, List.length_append, rl]; rfl
      have l9' : (x :: rs).length = b.length + 1 := by rw [List.length_cons, rl]
      refine ⟨ga, n, k, pt, pb, gi, x :: rs, b ++ [0], rfl, hG5, ⟨t5 _ _ et, ptn⟩, ⟨upd_same, pbn⟩, l9, by omega, by omega, by omega, fun pL H6 hG6 k6 hpL e6 => ?_⟩
      have k36 := k3.trans ((kp_of t5).trans k6)
      have lM : (x :: rs).length = ((b ++ [0]).map Sm03.not_).length := by rw [List.length_map]; exact l9
      have so : (Sm03.subs gi (x :: rs) (b ++ [0])).2.1.length = (x :: rs).length := adds_out _ _ _ _ lM
      have sl : (Sm03.subs gi (x :: rs) (b ++ [0])).1.length ≤ gi.length + 9 * (x :: rs).length := adds_len _ _ _ _
      have pLf : H pL = none := kp_free (k3.trans (kp_of t5)) hG hpL (hG5.fresh_n hpL) (hG5.fresh_k hpL)
      have e6' : H6 pL = some (.lst (lits ((Sm03.subs gi (x :: rs) (b ++ [0])).2.1 ++ [(Sm03.subs gi (x :: rs) (b ++ [0])).2.2]))) := e6
      have hG6' : GAt CG ga n k H6 (Sm03.subs gi (x :: rs) (b ++ [0])).1 := hG6
      have st := he.step hxr (by omega)
      generalize hS : Sm03.subs gi (x :: rs) (b ++ [0]) = S at so sl e6' hG6' st
      have et6 : H6 pt = some (.lst (lits (x :: rs))) := k6 _ _ (t5 _ _ et) ptn (ne_of (t5 _ _ et) hG5.known (by intro z; cases z))
      have hQ6 : Wd n H6 pq qs := (hQ.kp hG2 ((kp_of t2).trans ((kp_of t5).trans k6)))
      have hB6 := hB.kp hG k36
      -- k = left[-1]
      refine ⟨_, rfl, 1, rfl, pL, _, _, _, rfl, rfl, .inl (.inl e6'), at_m1 _ _, ?_⟩
      -- quotient = [k] + quotient
      refine ⟨_, rfl, (by show 1 ≤ sizeLine; decide), fun l3 hl3 => ?_⟩
      have t7 := same_upd (o := .lst [.int ((S.2.2 : Nat) : Int)]) hl3
      refine ⟨_, rfl, l3, pq, _, _, rfl, rfl, upd_same, t7 _ _ hQ6.1, ?_, fun pq2 hpq2 => ?_⟩
      · show 1 + (lits qs).length ≤ sizeLine
        rw [lits_len]
        exact Nat.le_of_lt (lim_lt (by omega))
      have t8 := t7.trans (same_upd (o := .lst (lits (S.2.2 :: qs))) hpq2)
      have hG8 := hG6'.mono t8
      have pq2n : pq2 ≠ n := (hG6'.mono t7).fresh_n hpq2
      have eq8 : (upd (upd H6 l3 (.lst [.int ((S.2.2 : Nat) : Int)])) pq2 (.lst (lits (S.2.2 :: qs)))) pq2 = some (.lst (lits (S.2.2 :: qs))) := upd_same
      have eL8 := t8 _ _ e6'
      have et8 := t8 _ _ et6
      have hB8 := hB6.same t8
      have k8 := k36.trans (kp_of t8)
      generalize hH8 : upd (upd H6 l3 (.lst [.int ((S.2.2 : Nat) : Int)])) pq2 (.lst (lits (S.2.2 :: qs))) = H8 at hG8 eq8 eL8 et8 hB8 k8
      have hH8' : upd (upd H6 l3 (.lst [.int ((S.2.2 : Nat) : Int)])) pq2 (.lst ([.int ((S.2.2 : Nat) : Int)] ++ lits qs)) = H8 := hH8
      rw [hH8']
      -- rest = chosen_word(gates, k, left[:-1], t)[:len(b)]
      refine ⟨_, rfl, _, rfl, _, rfl, 1, rfl, -1, rfl, pL, _, rfl, .inl (.inl eL8), fun pc hpc => ?_⟩
      rw [cut_m1]
      have t9 := same_upd (o := .lst (lits S.2.1)) hpc
      refine ⟨_, rfl, ga, n, k, pc, pt, S.1, S.2.2, S.2.1, x :: rs, rfl, hG8.mono t9, ⟨upd_same, hG8.fresh_n hpc⟩, ⟨t9 _ _ et8, ptn⟩, so, by omega, by omega, fun pm H10 hG10 k10 hpm e10 => ?_⟩
      have k810 := (kp_of t9).trans k10
      have hB10 := hB8.kp hG8 k810
      refine ⟨_, rfl, ab, _, rfl, .inl (.inl (.inl hB10.1)), _, rfl, pm, _, rfl, .inl (.inl e10), fun pr2 hpr2 => ?_⟩
      rw [cut_to, lits_take, lits_len]
      have t11 := same_upd (o := .lst (lits ((Sm03.muxes S.2.2 S.1 S.2.1 (x :: rs)).2.take b.length))) hpr2
      refine ⟨_, _, _, pq2, pr2, _, _, _, _, rfl, st, hG10.mono t11, (k8.trans k810).trans (kp_of t11), ?_, ⟨upd_same, hG10.fresh_n hpr2⟩⟩
      exact Wd.same (Wd.kp ⟨eq8, pq2n⟩ hG8 k810) t11
    · rintro σ H2 ⟨gi, qs, rs, pq, pr, v5, v6, v7, v8, rfl, he, hG2, k2, hQ, hR⟩
      have e := he.fin (by rw [lits_len]; exact Nat.le_refl _)
      have ee : fDiv g a b = (gi, qs ++ rs) := by unfold fDiv; rw [e]
      rw [ee] at q
      have rl := he.rl
      have ql := he.ql
      rw [lits_len] at ql
      refine ⟨_, rfl, _, rfl, pq, pr, _, _, rfl, rfl, hQ.1, hR.1, ?_, fun p hp => ?_⟩
      · rw [lits_len, lits_len]
        exact Nat.le_of_lt (lim_lt (by omega))
      · rw [← lits_app]
        exact newG_of q hG hG2 k2 hp

abbrev s_word_div : Stmt := top 42
abbrev N_word_div : List Str := ["gates", "a", "b"]
theorem sc_word_div : FnScope N_word_div ["gates", "a", "b"] (defScope s_word_div) := ⟨rfl, rfl, rfl, by decide +kernel, rfl, by decide +kernel, by decide +kernel⟩
theorem ok_word_div (F : Fun K "word_div" "word_div" s_word_div f fd) (D_divided : DF P w K mg base 7 "divided" (spW2 CG 8 4000 fDiv)) (b_len : mg "len" = none) : FnOk P w K mg base CX0 8 f fd ["gates", "a", "b"] (spW2 CG 8 4000 (fOp .div)) := by
  refine F.ok sc_word_div (fun vs H Q E h => ?_) (fun cdv A outer s H vs Q E hr h => ?_)
  · obtain ⟨_, _, _, _, _, _, _, _, rfl, _⟩ := h
    rfl
  · obtain ⟨ga, n, k, aa, ab, g, a, b, rfl, hG, hA, hB, hl, h1, h8, hm, q⟩ := h
    have hu := hu_of hr
    refine ⟨_, (pss_one (ps_ret (pe_slice sl_list (pe_df D_divided hr (pa_cons (pv 0) (pa_cons (pv 1) (pa_cons (pv 2) pa_nil)))) po_none (po_some (pe_callB call_len_seq (by rfl) b_len PySem.boot_len (pa_cons (pv 1) pa_nil)))))), ?_⟩
    refine ⟨_, rfl, _, rfl, _, rfl, ga, n, k, aa, ab, g, a, b, rfl, hG, hA, hB, hl, h1, h8, hm, fun p H1 hG1 k1 hp e1 => ?_⟩
    have hA1 := hA.kp hG k1
    refine ⟨_, rfl, aa, _, rfl, .inl (.inl (.inl hA1.1)), _, rfl, p, _, rfl, .inl (.inl e1), fun p2 hp2 => ?_⟩
    have dl := divs_out b a.reverse g [] (List.replicate b.length 0) (List.length_replicate ..)
    have ee : fOp .div g a b = ((Sm03.divs b g a.reverse [] (List.replicate b.length 0)).1, (Sm03.divs b g a.reverse [] (List.replicate b.length 0)).2.1) := by
      show ((Sm03.divs b g a.reverse [] (Sm03.noes b)).1, (Sm03.divs b g a.reverse [] (Sm03.noes b)).2.1) = _
      rw [noes_eq]
    rw [ee] at q
    have r := newG_of (p := p2) q hG hG1 k1 hp2
    rw [cut_to, lits_take, lits_len]
    rw [show (fDiv g a b).2.take a.length = (Sm03.divs b g a.reverse [] (List.replicate b.length 0)).2.1 from List.take_left' (by rw [dl, List.length_reverse]; rfl)]
    exact r

abbrev s_word_rem : Stmt := top 43
abbrev N_word_rem : List Str := ["gates", "a", "b"]
theorem sc_word_rem : FnScope N_word_rem ["gates", "a", "b"] (defScope s_word_rem) := ⟨rfl, rfl, rfl, by decide +kernel, rfl, by decide +kernel, by decide +kernel⟩
theorem ok_word_rem (F : Fun K "word_rem" "word_rem" s_word_rem f fd) (D_divided : DF P w K mg base 7 "divided" (spW2 CG 8 4000 fDiv)) (b_len : mg "len" = none) : FnOk P w K mg base CX0 8 f fd ["gates", "a", "b"] (spW2 CG 8 4000 (fOp .rem)) := by
  refine F.ok sc_word_rem (fun vs H Q E h => ?_) (fun cdv A outer s H vs Q E hr h => ?_)
  · obtain ⟨_, _, _, _, _, _, _, _, rfl, _⟩ := h
    rfl
  · obtain ⟨ga, n, k, aa, ab, g, a, b, rfl, hG, hA, hB, hl, h1, h8, hm, q⟩ := h
    have hu := hu_of hr
    refine ⟨_, (pss_one (ps_ret (pe_slice sl_list (pe_df D_divided hr (pa_cons (pv 0) (pa_cons (pv 1) (pa_cons (pv 2) pa_nil)))) (po_some (pe_callB call_len_seq (by rfl) b_len PySem.boot_len (pa_cons (pv 1) pa_nil))) po_none))), ?_⟩
    refine ⟨_, rfl, _, rfl, _, rfl, ga, n, k, aa, ab, g, a, b, rfl, hG, hA, hB, hl, h1, h8, hm, fun p H1 hG1 k1 hp e1 => ?_⟩
    have hA1 := hA.kp hG k1
    refine ⟨_, rfl, aa, _, rfl, .inl (.inl (.inl hA1.1)), _, rfl, p, _, rfl, .inl (.inl e1), fun p2 hp2 => ?_⟩
    have dl := divs_out b a.reverse g [] (List.replicate b.length 0) (List.length_replicate ..)
    have ee : fOp .rem g a b = ((Sm03.divs b g a.reverse [] (List.replicate b.length 0)).1, (Sm03.divs b g a.reverse [] (List.replicate b.length 0)).2.2) := by
      show ((Sm03.divs b g a.reverse [] (Sm03.noes b)).1, (Sm03.divs b g a.reverse [] (Sm03.noes b)).2.2) = _
      rw [noes_eq]
    rw [ee] at q
    have r := newG_of (p := p2) q hG hG1 k1 hp2
    rw [cut_from, lits_drop, lits_len]
    rw [show (fDiv g a b).2.drop a.length = (Sm03.divs b g a.reverse [] (List.replicate b.length 0)).2.2 from List.drop_left' (by rw [dl, List.length_reverse]; rfl)]
    exact r
end
end BC

set_option Elab.async false
set_option linter.all false
set_option maxRecDepth 100000
set_option maxHeartbeats 2000000
namespace BC
open PySem PySem.Spec PyProof.Rows L2
section
variable {P : Program} {w : World} {K : PySem.W.Frag} {mg : Str → Option Value} {base : Heap} {CG CS CW : Addr} {f : Addr} {fd : FuncData}
abbrev s_word_two : Stmt := top 53
abbrev N_word_two : List Str := ["gates", "which", "a", "b", "make"]
theorem sc_word_two : FnScope N_word_two ["gates", "which", "a", "b"] (defScope s_word_two) := ⟨rfl, rfl, rfl, by decide +kernel, rfl, by decide +kernel, by decide +kernel⟩
theorem ok_word_two (F : Fun K "word_two" "word_two" s_word_two f fd) {a_TWO : Addr} (m_TWO : mg "TWO" = some (.ref a_TWO)) {rs : List V} (kT : TupK K a_TWO rs) (hT : ∀ (wh : Nat) (o : Sm03.Op), Sm03Neutral.opOf wh = some o → ∃ f, rs[wh]? = some (.ref f) ∧ Hld P w K mg base 8 f (spW2 CG 8 4000 (fOp o))) : FnOk P w K mg base CX0 9 f fd ["gates", "which", "a", "b"] (spTwo CG) := by
  refine F.ok sc_word_two (fun vs H Q E h => ?_) (fun cdv A outer s H vs Q E hr h => ?_)
  · obtain ⟨_, _, _, _, _, _, _, _, _, _, rfl, _⟩ := h
    rfl
  · obtain ⟨ga, n, k, aa, ab, g, wh, o, a, b, rfl, ho, hG, hA, hB, hl, h1, h8, hm, q⟩ := h
    obtain ⟨f, hf, hH⟩ := hT wh o ho
    have hu := hu_of hr
    refine ⟨_, (pss_cons (ps_set (i := 4) sc_word_two.nd rfl (Or.inl rfl) (pe_ix ix_tup (pe_gr m_TWO) (pv 1) (fun _ _ => rfl)))
      (pss_one (ps_ret (pe_callD (k := 8) (i := 4) hr rfl (pa_cons (pv 0) (pa_cons (pv 2) (pa_cons (pv 3) pa_nil))))))), ?_⟩
    refine ⟨_, rfl, a_TWO, _, _, _, rfl, rfl, kT _, atI_nat hf, ?_⟩
    exact ⟨f, _, rfl, hH, _, rfl, _, rfl, _, rfl, ga, n, k, aa, ab, g, a, b, rfl, hG, hA, hB, hl, h1, h8, hm, q⟩
end
end BC

set_option Elab.async false
set_option linter.all false
set_option maxRecDepth 100000
set_option maxHeartbeats 2000000
namespace BC
open PySem PySem.Spec PyProof.Rows L2
/-! ### the state: pure -/
abbrev Entry := Sm03.Entry
def inIdx : Nat → List Entry → List Nat
  | _, [] => []
  | i, e :: r => match e.term with
    | .input _ => i :: inIdx (i + 1) r
    | _ => inIdx (i + 1) r
theorem inIdx_app : ∀ (es : List Entry) (e : Entry) (i : Nat), inIdx i (es ++ [e]) = inIdx i es ++ inIdx (i + es.length) [e]
  | [], e, i => rfl
  | x :: r, e, i => by
    have ih := inIdx_app r e (i + 1)
    have el : i + 1 + r.length = i + (x :: r).length := by rw [List.length_cons]; omega
    rw [el] at ih
    show inIdx i (x :: (r ++ [e])) = _
    unfold inIdx
    split
    · rw [ih]; rfl
    · rw [ih]; rfl
theorem inIdx_lt : ∀ (es : List Entry) (i j : Nat), j ∈ inIdx i es → i ≤ j ∧ j < i + es.length
  | [], i, j, h => by cases h
  | x :: r, i, j, h => by
    unfold inIdx at h
    have ih := inIdx_lt r (i + 1) j
    rw [List.length_cons]
    split at h
    · rcases List.mem_cons.mp h with h | h
      · omega
      · have := ih h; omega
    · have := ih h; omega
theorem inIdx_len : ∀ (es : List Entry) (i : Nat), (inIdx i es).length = (Sm03.inputs es).length
  | [], i => rfl
  | x :: r, i => by
    have ih := inIdx_len r (i + 1)
    unfold inIdx Sm03.inputs
    rw [List.filterMap_cons]
    cases e : x.term <;> dsimp only <;> first | exact congrArg Nat.succ ih | exact ih
/-- inputs are as wide as they say -/
def InW (es : List Entry) : Prop := ∀ e ∈ es, ∀ w, e.term = .input w → e.word.length = w
theorem in_widths : ∀ (es pre : List Entry), InW es → (inIdx pre.length es).map (Sm03.widthOf (pre ++ es)) = Sm03.inputs es
  | [], pre, _ => rfl
  | x :: r, pre, h => by
    have ih := in_widths r (pre ++ [x]) (fun e he => h e (List.mem_cons_of_mem _ he))
    rw [List.append_assoc, List.length_append] at ih
    have ih' : (inIdx (pre.length + 1) r).map (Sm03.widthOf (pre ++ x :: r)) = Sm03.inputs r := ih
    have hx : Sm03.widthOf (pre ++ x :: r) pre.length = x.word.length := by
      unfold Sm03.widthOf Sm03.wordOf
      rw [List.getElem?_append_right (Nat.le_refl _), Nat.sub_self]
      rfl
    unfold inIdx Sm03.inputs
    rw [List.filterMap_cons]
    cases e : x.term with
    | input w =>
      dsimp only
      rw [List.map_cons, ih', hx, h x (List.mem_cons_self ..) w e]
      rfl
    | _ => exact ih'
theorem total_sum (l : List Nat) : Sm03.total l = l.sum := by
  unfold Sm03.total
  have : ∀ (l : List Nat) (a : Nat), l.foldl (fun a b => a + b) a = a + l.sum := by
    intro l
    induction l with
    | nil => intro a; rfl
    | cons x r ih => intro a; rw [List.foldl_cons, ih, List.sum_cons]; omega
  rw [this, Nat.zero_add]
structure WF (d : Sm03.Stand) : Prop where
  wl : ∀ e ∈ d.terms, 1 ≤ e.word.length ∧ e.word.length ≤ 8
  tl : d.terms.length ≤ 30
  gl : d.graph.length ≤ 1200
  il : Sm03.total (Sm03.inputs d.terms) ≤ 10
  iw : InW d.terms
  cl : d.claims.length ≤ 12
  cw : ∀ c ∈ d.claims, c < d.terms.length ∧ Sm03.widthOf d.terms c = 1
  gd : BS.Good d.graph d.terms
theorem WF.width {d : Sm03.Stand} (h : WF d) {a : Nat} (ha : a < d.terms.length) : 1 ≤ (Sm03.wordOf d.terms a).length ∧ (Sm03.wordOf d.terms a).length ≤ 8 := by
  have e : d.terms[a]? = some d.terms[a] := List.getElem?_eq_getElem ha
  unfold Sm03.wordOf
  rw [e]
  exact h.wl _ (List.getElem_mem ha)
/-! ### the state in the heap -/
structure Ad where
  sa : Addr
  ga : Addr
  n : Addr
  k : Addr
  pt : Addr
  pi : Addr
  pc : Addr
  pm : Addr
def sF (A : Ad) : List (Str × V) := [("gates", .ref A.ga), ("terms", .ref A.pt), ("inputs", .ref A.pi), ("claims", .ref A.pc), ("marks", .ref A.pm)]
theorem sF_gates (A : Ad) : (sF A).lookup ("gates" : Str) = some (.ref A.ga) := lk_here
theorem sF_terms (A : Ad) : (sF A).lookup ("terms" : Str) = some (.ref A.pt) := (lk_past (by decide +kernel)).trans lk_here
theorem sF_inputs (A : Ad) : (sF A).lookup ("inputs" : Str) = some (.ref A.pi) := (lk_past (by decide +kernel)).trans ((lk_past (by decide +kernel)).trans lk_here)
theorem sF_claims (A : Ad) : (sF A).lookup ("claims" : Str) = some (.ref A.pc) := (lk_past (by decide +kernel)).trans ((lk_past (by decide +kernel)).trans ((lk_past (by decide +kernel)).trans lk_here))
theorem sF_marks (A : Ad) : (sF A).lookup ("marks" : Str) = some (.ref A.pm) := (lk_past (by decide +kernel)).trans ((lk_past (by decide +kernel)).trans ((lk_past (by decide +kernel)).trans ((lk_past (by decide +kernel)).trans lk_here)))
/-- an address that no step changes -/
structure Ad.Out (A : Ad) (r : Addr) : Prop where
  n : r ≠ A.n
  pt : r ≠ A.pt
  pi : r ≠ A.pi
  pc : r ≠ A.pc
  pm : r ≠ A.pm
inductive Wds (A : Ad) (H : Hp) : List Addr → List Entry → Prop
  | nil : Wds A H [] []
  | cons {r : Addr} {rs : List Addr} {e : Entry} {es : List Entry} (h : H r = some (.lst (lits e.word))) (o : A.Out r) (t : Wds A H rs es) : Wds A H (r :: rs) (e :: es)
theorem Wds.at {A : Ad} {H : Hp} {rs : List Addr} {es : List Entry} (h : Wds A H rs es) : ∀ {i : Nat}, i < es.length → ∃ r, rs[i]? = some r ∧ H r = some (.lst (lits (Sm03.wordOf es i))) ∧ A.Out r := by
  induction h with
  | nil => intro i hi; cases hi
  | cons hh ho t ih =>
    intro i hi
    cases i with
    | zero => exact ⟨_, rfl, hh, ho⟩
    | succ i =>
      obtain ⟨r, a, b, c⟩ := ih (i := i) (Nat.lt_of_succ_lt_succ hi)
      exact ⟨r, a, b, c⟩
theorem Wds.len {A : Ad} {H : Hp} {rs : List Addr} {es : List Entry} (h : Wds A H rs es) : rs.length = es.length := by
  induction h with
  | nil => rfl
  | cons _ _ _ ih => exact congrArg Nat.succ ih
theorem Wds.mono {A : Ad} {H H' : Hp} {rs : List Addr} {es : List Entry} (h : Wds A H rs es) (m : ∀ r xs, A.Out r → H r = some (.lst xs) → H' r = some (.lst xs)) : Wds A H' rs es := by
  induction h with
  | nil => exact .nil
  | cons hh ho _ ih => exact .cons (m _ _ ho hh) ho ih
theorem Wds.snoc {A : Ad} {H : Hp} {rs : List Addr} {es : List Entry} {r : Addr} {e : Entry} (h : Wds A H rs es) (hr : H r = some (.lst (lits e.word))) (ho : A.Out r) : Wds A H (rs ++ [r]) (es ++ [e]) := by
  induction h with
  | nil => exact .cons hr ho .nil
  | cons hh ho' _ ih => exact .cons hh ho' ih
def mk4 (d : Sm03.Stand) : List V := [.int (d.terms.length : Nat), .int ((Sm03.inputs d.terms).length : Nat), .int (d.claims.length : Nat), .int (d.graph.length : Nat)]
inductive Mks (H : Hp) : List Addr → List Sm03.Stand → Prop
  | nil : Mks H [] []
  | cons {r : Addr} {rs : List Addr} {d : Sm03.Stand} {ds : List Sm03.Stand} (h : H r = some (.tup (mk4 d))) (t : Mks H rs ds) : Mks H (r :: rs) (d :: ds)
theorem Mks.len {H : Hp} {rs : List Addr} {ds : List Sm03.Stand} (h : Mks H rs ds) : rs.length = ds.length := by
  induction h with
  | nil => rfl
  | cons _ _ ih => exact congrArg Nat.succ ih
theorem Mks.mono {H H' : Hp} {rs : List Addr} {ds : List Sm03.Stand} (h : Mks H rs ds) (m : ∀ r xs, H r = some (.tup xs) → H' r = some (.tup xs)) : Mks H' rs ds := by
  induction h with
  | nil => exact .nil
  | cons hh _ ih => exact .cons (m _ _ hh) ih
/-- each mark is how it was: what stands now goes on from it -/
structure Onto (m d : Sm03.Stand) : Prop where
  g : m.graph <+: d.graph
  t : m.terms <+: d.terms
  c : m.claims <+: d.claims
theorem Onto.refl (d : Sm03.Stand) : Onto d d := ⟨List.prefix_refl _, List.prefix_refl _, List.prefix_refl _⟩
theorem Onto.trans {a b c : Sm03.Stand} (h : Onto a b) (k : Onto b c) : Onto a c := ⟨h.g.trans k.g, h.t.trans k.t, h.c.trans k.c⟩
inductive Chain : Sm03.Stand → List Sm03.Stand → Prop
  | nil {d : Sm03.Stand} (w : WF d) : Chain d []
  | cons {d m : Sm03.Stand} {r : List Sm03.Stand} (w : WF d) (o : Onto m d) (t : Chain m r) : Chain d (m :: r)
theorem Chain.wf {d : Sm03.Stand} {r : List Sm03.Stand} (h : Chain d r) : WF d := by cases h <;> assumption
theorem Chain.up {d d' : Sm03.Stand} {r : List Sm03.Stand} (h : Chain d r) (w : WF d') (o : Onto d d') : Chain d' r := by
  cases h with
  | nil _ => exact .nil w
  | cons _ o' t => exact .cons w (o'.trans o) t
structure SAt (CS CG : Addr) (A : Ad) (H : Hp) (s : Sm03.St) : Prop where
  ins : ∃ dx, H A.sa = some (.ins CS dx (sF A))
  gat : GAt CG A.ga A.n A.k H s.now.graph
  terms : ∃ rs : List Addr, H A.pt = some (.lst (rs.map V.ref)) ∧ Wds A H rs s.now.terms
  inputs : H A.pi = some (.lst (lits (inIdx 0 s.now.terms)))
  claims : H A.pc = some (.lst (lits s.now.claims))
  marks : ∃ rs : List Addr, H A.pm = some (.lst (rs.map V.ref)) ∧ Mks H rs s.marks.reverse
  d1 : A.pt ≠ A.n ∧ A.pi ≠ A.n ∧ A.pc ≠ A.n ∧ A.pm ≠ A.n
  d2 : A.pt ≠ A.pi ∧ A.pt ≠ A.pc ∧ A.pt ≠ A.pm ∧ A.pi ≠ A.pc ∧ A.pi ≠ A.pm ∧ A.pc ≠ A.pm
  ml : s.marks.length ≤ 8
  ch : Chain s.now s.marks
section
variable {CS CG : Addr} {A : Ad} {H H' : Hp} {s : Sm03.St}
theorem SAt.wf (h : SAt CS CG A H s) : WF s.now := h.ch.wf
/-- a word of a term, read -/
theorem SAt.word (h : SAt CS CG A H s) {i : Nat} (hi : i < s.now.terms.length) : ∃ (rs : List Addr) (r : Addr), H A.pt = some (.lst (rs.map V.ref)) ∧ (rs.map V.ref)[i]? = some (.ref r) ∧ Wd A.n H r (Sm03.wordOf s.now.terms i) := by
  obtain ⟨rs, h1, h2⟩ := h.terms
  obtain ⟨r, a, b, c⟩ := h2.at hi
  exact ⟨rs, r, h1, by rw [List.getElem?_map, a]; rfl, b, c.n⟩
theorem SAt.same (h : SAt CS CG A H s) (m : Same H H') : SAt CS CG A H' s := by
  obtain ⟨dx, h1⟩ := h.ins
  obtain ⟨rs, h2, h3⟩ := h.terms
  obtain ⟨ms, h4, h5⟩ := h.marks
  exact ⟨⟨dx, m _ _ h1⟩, h.gat.mono m, ⟨rs, m _ _ h2, h3.mono fun r xs _ e => m _ _ e⟩, m _ _ h.inputs, m _ _ h.claims, ⟨ms, m _ _ h4, h5.mono fun r xs e => m _ _ e⟩, h.d1, h.d2, h.ml, h.ch⟩
/-- while a term is made only the gates change -/
structure SRd (CS CG : Addr) (A : Ad) (H : Hp) (g : Graph) (s : Sm03.St) : Prop where
  ins : ∃ dx, H A.sa = some (.ins CS dx (sF A))
  gat : GAt CG A.ga A.n A.k H g
  terms : ∃ rs : List Addr, H A.pt = some (.lst (rs.map V.ref)) ∧ Wds A H rs s.now.terms
  inputs : H A.pi = some (.lst (lits (inIdx 0 s.now.terms)))
  claims : H A.pc = some (.lst (lits s.now.claims))
  marks : ∃ rs : List Addr, H A.pm = some (.lst (rs.map V.ref)) ∧ Mks H rs s.marks.reverse
theorem SAt.kp (h : SAt CS CG A H s) {g : Graph} (hG : GAt CG A.ga A.n A.k H' g) (m : Kp A.n A.k H H') : SRd CS CG A H' g s := by
  obtain ⟨dx, h1⟩ := h.ins
  obtain ⟨rs, h2, h3⟩ := h.terms
  obtain ⟨ms, h4, h5⟩ := h.marks
  obtain ⟨ns, h6, _⟩ := h.gat.nodes
  have hk := h.gat.known
  have lst : ∀ {r : Addr} {xs : List V}, H r = some (.lst xs) → r ≠ A.n → H' r = some (.lst xs) := fun e rn => m _ _ e rn (ne_of e hk (by intro z; cases z))
  refine ⟨⟨dx, m _ _ h1 (ne_of h1 h6 (by intro z; cases z)) (ne_of h1 hk (by intro z; cases z))⟩, hG, ⟨rs, lst h2 h.d1.1, h3.mono fun r xs o e => lst e o.n⟩, lst h.inputs h.d1.2.1, lst h.claims h.d1.2.2.1,
    ⟨ms, lst h4 h.d1.2.2.2, h5.mono fun r xs e => m _ _ e (ne_of e h6 (by intro z; cases z)) (ne_of e hk (by intro z; cases z))⟩⟩
end
structure TState (K : PySem.W.Frag) (CS : Addr) : Prop where
  cl : Cls K CS
  nG : NoAttr K CS "gates"
  nT : NoAttr K CS "terms"
  nI : NoAttr K CS "inputs"
  nC : NoAttr K CS "claims"
  nM : NoAttr K CS "marks"
/-! ### promises: reading the state -/
def spHas (CS CG : Addr) : Sp := fun vs H Q _ => ∃ (A : Ad) (s : Sm03.St) (t : Nat), vs = [.ref A.sa, .int t] ∧ SAt CS CG A H s ∧ Q (.bl (decide (t < s.now.terms.length))) H
def spWidth (CS CG : Addr) : Sp := fun vs H Q _ => ∃ (A : Ad) (s : Sm03.St) (t : Nat), vs = [.ref A.sa, .int t] ∧ SAt CS CG A H s ∧ t < s.now.terms.length ∧ Q (.int (Sm03.widthOf s.now.terms t : Nat)) H
def spBits (CS CG : Addr) : Sp := fun vs H Q _ => ∃ (A : Ad) (s : Sm03.St), vs = [.ref A.sa] ∧ SAt CS CG A H s ∧ ∀ H', Same H H' → Q (.int (Sm03.total (Sm03.inputs s.now.terms) : Nat)) H'
/-! ### terms by their numbers -/
def tmOf : Nat → List Nat → Option Sm03.Term
  | 0, [w] => some (.input w)
  | 1, [w, v] => some (.const w v)
  | 2, [a] => some (.not a)
  | 3, [a] => some (.neg a)
  | 4, [o, a, b] => (Sm03Neutral.opOf o).map fun x => .two x a b
  | 5, [a, b] => some (.join a b)
  | 6, [a, lo, n] => some (.cut a lo n)
  | 7, [a, w] => some (.wide false a w)
  | 8, [a, w] => some (.wide true a w)
  | 9, [c, a, b] => some (.pick c a b)
  | _, _ => none
/-- whether it's unfit, where the terms that it names are there -/
def spUnfit (CS CG : Addr) (c : Nat) : Sp := fun vs H Q _ => ∃ (A : Ad) (s : Sm03.St) (nn : Addr) (nums : List Nat) (t : Sm03.Term), vs = [.ref A.sa, .ref nn] ∧ SAt CS CG A H s ∧ H nn = some (.lst (lits nums)) ∧ tmOf c nums = some t ∧ Sm03.wrong s.now.terms t ≠ -2 ∧
  ∀ H', Same H H' → Q (.bl (decide (Sm03.wrong s.now.terms t < 0))) H'
def spMake (CS CG : Addr) (c : Nat) : Sp := fun vs H Q _ => ∃ (A : Ad) (s : Sm03.St) (nn : Addr) (nums : List Nat) (t : Sm03.Term), vs = [.ref A.sa, .ref nn] ∧ SAt CS CG A H s ∧ H nn = some (.lst (lits nums)) ∧ nn ≠ A.n ∧ tmOf c nums = some t ∧ Sm03.wrong s.now.terms t = 0 ∧
  NewG CG A.ga A.n A.k H Q (Sm03.made s.now.graph s.now.terms t)
theorem at0 (x : Nat) (r : List Nat) : atI (lits (x :: r)) 0 = some (.int (x : Int)) := atI_nat (j := 0) rfl
theorem at1 (x y : Nat) (r : List Nat) : atI (lits (x :: y :: r)) 1 = some (.int (y : Int)) := atI_nat (j := 1) rfl
theorem at2 (x y z : Nat) (r : List Nat) : atI (lits (x :: y :: z :: r)) 2 = some (.int (z : Int)) := atI_nat (j := 2) rfl
theorem tm0 {nums : List Nat} {t : Sm03.Term} (h : tmOf 0 nums = some t) : ∃ w, nums = [w] ∧ t = .input w := by
  match nums, h with
  | [w], h => exact ⟨w, rfl, (Option.some.inj h).symm⟩
theorem tm1 {nums : List Nat} {t : Sm03.Term} (h : tmOf 1 nums = some t) : ∃ w v, nums = [w, v] ∧ t = .const w v := by
  match nums, h with
  | [w, v], h => exact ⟨w, v, rfl, (Option.some.inj h).symm⟩
theorem tm2 {nums : List Nat} {t : Sm03.Term} (h : tmOf 2 nums = some t) : ∃ a, nums = [a] ∧ t = .not a := by
  match nums, h with
  | [a], h => exact ⟨a, rfl, (Option.some.inj h).symm⟩
theorem tm3 {nums : List Nat} {t : Sm03.Term} (h : tmOf 3 nums = some t) : ∃ a, nums = [a] ∧ t = .neg a := by
  match nums, h with
  | [a], h => exact ⟨a, rfl, (Option.some.inj h).symm⟩
theorem tm4 {nums : List Nat} {t : Sm03.Term} (h : tmOf 4 nums = some t) : ∃ o a b x, nums = [o, a, b] ∧ Sm03Neutral.opOf o = some x ∧ t = .two x a b := by
  match nums, h with
  | [o, a, b], h =>
    have h : (Sm03Neutral.opOf o).map (fun x => Sm03.Term.two x a b) = some t := h
    cases e : Sm03Neutral.opOf o with
    | none => rw [e] at h; cases h
    | some x => rw [e] at h; exact ⟨o, a, b, x, rfl, e, (Option.some.inj h).symm⟩
theorem tm5 {nums : List Nat} {t : Sm03.Term} (h : tmOf 5 nums = some t) : ∃ a b, nums = [a, b] ∧ t = .join a b := by
  match nums, h with
  | [a, b], h => exact ⟨a, b, rfl, (Option.some.inj h).symm⟩
theorem tm6 {nums : List Nat} {t : Sm03.Term} (h : tmOf 6 nums = some t) : ∃ a lo n, nums = [a, lo, n] ∧ t = .cut a lo n := by
  match nums, h with
  | [a, lo, n], h => exact ⟨a, lo, n, rfl, (Option.some.inj h).symm⟩
theorem tm7 {nums : List Nat} {t : Sm03.Term} (h : tmOf 7 nums = some t) : ∃ a w, nums = [a, w] ∧ t = .wide false a w := by
  match nums, h with
  | [a, w], h => exact ⟨a, w, rfl, (Option.some.inj h).symm⟩
theorem tm8 {nums : List Nat} {t : Sm03.Term} (h : tmOf 8 nums = some t) : ∃ a w, nums = [a, w] ∧ t = .wide true a w := by
  match nums, h with
  | [a, w], h => exact ⟨a, w, rfl, (Option.some.inj h).symm⟩
theorem tm9 {nums : List Nat} {t : Sm03.Term} (h : tmOf 9 nums = some t) : ∃ c a b, nums = [c, a, b] ∧ t = .pick c a b := by
  match nums, h with
  | [c, a, b], h => exact ⟨c, a, b, rfl, (Option.some.inj h).symm⟩
theorem there_iff (es : List Entry) (i : Nat) : Sm03.there es i = true ↔ i < es.length := by unfold Sm03.there; exact decide_eq_true_iff
theorem there_not (es : List Entry) (i : Nat) : Sm03.there es i = false ↔ ¬ i < es.length := by unfold Sm03.there; exact decide_eq_false_iff_not
theorem sum_cast : ∀ l : List Nat, (l.map fun (x : Nat) => (x : Int)).sum = ((l.sum : Nat) : Int)
  | [] => rfl
  | x :: r => by
    rw [List.map_cons, List.sum_cons, List.sum_cons, sum_cast r]
    omega
theorem or_val {ta tb : TE} {σ : L2.St} {H : Hp} {Q : VK} (c d : Bool) (h1 : ∀ R : VK, R (.bl c) H → ta σ H R) (h2 : ∀ R : VK, R (.bl d) H → tb σ H R) (q : Q (.bl (c || d)) H) : tOrV ta tb σ H Q := by
  refine h1 _ ⟨c, rfl, ?_⟩
  cases c with
  | true => exact if_true_of rfl q
  | false => exact if_false_of rfl (h2 _ q)
def spBad : Sp := fun vs H Q _ => ∃ w : Nat, vs = [.int w] ∧ Q (.bl (decide (w = 0 ∨ 8 < w))) H
theorem wr_two {es : List Entry} {o : Sm03.Op} {a b : Nat} (h : Sm03.wrong es (.two o a b) ≠ -2) : a < es.length ∧ b < es.length ∧ (Sm03.wrong es (.two o a b) < 0 ↔ ¬ Sm03.widthOf es a = Sm03.widthOf es b) := by
  unfold Sm03.wrong at h ⊢
  dsimp only at h ⊢
  by_cases c : Sm03.there es a = false ∨ Sm03.there es b = false
  · rw [if_pos c] at h; exact (h rfl).elim
  · rw [if_neg c]
    refine ⟨?_, ?_, ?_⟩
    · exact Decidable.byContradiction fun z => c (.inl ((there_not _ _).mpr z))
    · exact Decidable.byContradiction fun z => c (.inr ((there_not _ _).mpr z))
    · split <;> rename_i e <;> simp [e]
theorem wr_join {es : List Entry} {a b : Nat} (h : Sm03.wrong es (.join a b) ≠ -2) : a < es.length ∧ b < es.length ∧ (Sm03.wrong es (.join a b) < 0 ↔ 8 < Sm03.widthOf es a + Sm03.widthOf es b) := by
  unfold Sm03.wrong at h ⊢
  dsimp only at h ⊢
  by_cases c : Sm03.there es a = false ∨ Sm03.there es b = false
  · rw [if_pos c] at h; exact (h rfl).elim
  · rw [if_neg c]
    refine ⟨?_, ?_, ?_⟩
    · exact Decidable.byContradiction fun z => c (.inl ((there_not _ _).mpr z))
    · exact Decidable.byContradiction fun z => c (.inr ((there_not _ _).mpr z))
    · split <;> rename_i e <;> simp [e]
theorem wr_cut {es : List Entry} {a lo n : Nat} (h : Sm03.wrong es (.cut a lo n) ≠ -2) : a < es.length ∧ (Sm03.wrong es (.cut a lo n) < 0 ↔ n = 0 ∨ Sm03.widthOf es a < lo + n) := by
  unfold Sm03.wrong at h ⊢
  dsimp only at h ⊢
  by_cases c : Sm03.there es a = false
  · rw [if_pos c] at h; exact (h rfl).elim
  · rw [if_neg c]
    refine ⟨?_, ?_⟩
    · exact Decidable.byContradiction fun z => c ((there_not _ _).mpr z)
    · split <;> rename_i e <;> simp [e]
theorem wr_wide {es : List Entry} {sg : Bool} {a w : Nat} (h : Sm03.wrong es (.wide sg a w) ≠ -2) : a < es.length ∧ (Sm03.wrong es (.wide sg a w) < 0 ↔ w < Sm03.widthOf es a ∨ 8 < w) := by
  unfold Sm03.wrong at h ⊢
  dsimp only at h ⊢
  by_cases c : Sm03.there es a = false
  · rw [if_pos c] at h; exact (h rfl).elim
  · rw [if_neg c]
    refine ⟨?_, ?_⟩
    · exact Decidable.byContradiction fun z => c ((there_not _ _).mpr z)
    · split <;> rename_i e <;> simp [e]
theorem wr_pick {es : List Entry} {c a b : Nat} (h : Sm03.wrong es (.pick c a b) ≠ -2) : c < es.length ∧ a < es.length ∧ b < es.length ∧ (Sm03.wrong es (.pick c a b) < 0 ↔ ¬ Sm03.widthOf es c = 1 ∨ ¬ Sm03.widthOf es a = Sm03.widthOf es b) := by
  unfold Sm03.wrong at h ⊢
  dsimp only at h ⊢
  by_cases k : Sm03.there es c = false ∨ Sm03.there es a = false ∨ Sm03.there es b = false
  · rw [if_pos k] at h; exact (h rfl).elim
  · rw [if_neg k]
    refine ⟨?_, ?_, ?_, ?_⟩
    · exact Decidable.byContradiction fun z => k (.inl ((there_not _ _).mpr z))
    · exact Decidable.byContradiction fun z => k (.inr (.inl ((there_not _ _).mpr z)))
    · exact Decidable.byContradiction fun z => k (.inr (.inr ((there_not _ _).mpr z)))
    · split
      · rename_i e
        constructor
        · intro z; exact absurd z (by decide)
        · intro z; rcases z with z | z
          · exact (z e.1).elim
          · exact (z e.2).elim
      · rename_i e
        constructor
        · intro _
          by_cases h1 : Sm03.widthOf es c = 1
          · exact .inr fun h2 => e ⟨h1, h2⟩
          · exact .inl h1
        · intro _; decide
theorem wr_one {es : List Entry} {a : Nat} (h : Sm03.wrong es (.not a) ≠ -2) : a < es.length ∧ Sm03.wrong es (.not a) = 0 := by
  unfold Sm03.wrong at h ⊢
  dsimp only at h ⊢
  by_cases c : Sm03.there es a = true
  · rw [if_pos c]; exact ⟨(there_iff _ _).mp c, rfl⟩
  · rw [if_neg c] at h; exact (h rfl).elim
theorem wr_neg {es : List Entry} {a : Nat} (h : Sm03.wrong es (.neg a) ≠ -2) : a < es.length ∧ Sm03.wrong es (.neg a) = 0 := wr_one h
theorem wr_input {es : List Entry} {w : Nat} : Sm03.wrong es (.input w) < 0 ↔ w = 0 ∨ 8 < w := by
  unfold Sm03.wrong
  dsimp only
  split <;> rename_i e <;> simp [e]
theorem wr_const {es : List Entry} {w v : Nat} : Sm03.wrong es (.const w v) < 0 ↔ (w = 0 ∨ 8 < w) ∨ 2 ^ w ≤ v := by
  unfold Sm03.wrong
  dsimp only
  by_cases c : w = 0 ∨ 8 < w
  · rw [if_pos c]; simp [c]
  · rw [if_neg c]
    split <;> rename_i e <;> simp [e, c]
theorem dec_ne (a b : Nat) : (!decide (V.int (a : Int) = V.int (b : Int))) = decide (¬ a = b) := by
  by_cases h : a = b
  · subst h; simp
  · rw [decide_eq_false (fun z => h (by injection z with z; omega)), decide_eq_true h]; rfl
theorem dec_eqN (a b : Nat) : decide (V.int (a : Int) = V.int (b : Int)) = decide (a = b) := by
  by_cases h : a = b
  · subst h; simp
  · rw [decide_eq_false (fun z => h (by injection z with z; omega)), decide_eq_false h]
theorem dec_lt (a b : Nat) : decide ((a : Int) < (b : Int)) = decide (a < b) := decide_eq_decide.mpr (by omega)
def spUnfit1 (CS CG : Addr) : Sp := fun vs H Q _ => ∃ (A : Ad) (s : Sm03.St) (nn : Addr) (nums : List Nat) (t : Sm03.Term), vs = [.ref A.sa, .ref nn] ∧ SAt CS CG A H s ∧ H nn = some (.lst (lits nums)) ∧ (tmOf 2 nums = some t ∨ tmOf 3 nums = some t) ∧ Sm03.wrong s.now.terms t ≠ -2 ∧
  ∀ H', Same H H' → Q (.bl (decide (Sm03.wrong s.now.terms t < 0))) H'
def spUnfitW (CS CG : Addr) : Sp := fun vs H Q _ => ∃ (A : Ad) (s : Sm03.St) (nn : Addr) (nums : List Nat) (a w : Nat) (sg : Bool), vs = [.ref A.sa, .ref nn] ∧ SAt CS CG A H s ∧ H nn = some (.lst (lits nums)) ∧ nums = [a, w] ∧ Sm03.wrong s.now.terms (.wide sg a w) ≠ -2 ∧
  ∀ H', Same H H' → Q (.bl (decide (Sm03.wrong s.now.terms (.wide sg a w) < 0))) H'
theorem KE_bits {m : Nat} {x : Int} : Builtin.Int.intBits x ≤ m ↔ x.natAbs < 2 ^ m := intBits_le_iff
theorem bitsOf_eq : ∀ (w v : Nat), Sm03.bitsOf w v = (List.range w).map fun i => v / 2 ^ i % 2
  | 0, v => rfl
  | w + 1, v => by
    show v % 2 :: Sm03.bitsOf w (v / 2) = _
    rw [bitsOf_eq w (v / 2), List.range_succ_eq_map, List.map_cons, List.map_map]
    congr 1
    · rw [Nat.pow_zero, Nat.div_one]
    · apply List.map_congr_left
      intro i _
      show v / 2 / 2 ^ i % 2 = v / 2 ^ (i + 1) % 2
      rw [Nat.div_div_eq_div_mul, Nat.pow_succ, Nat.mul_comm 2]
theorem cut_mid (ws : List Nat) (lo n : Nat) : cutV (lits ws) (some (lo : Int)) (some ((lo : Int) + (n : Int))) = lits ((ws.drop lo).take n) := by
  unfold cutV
  rw [show (lo : Int) + (n : Int) = ((lo + n : Nat) : Int) by omega, HT.sIx_nat, HT.sIx_nat, lits_len, lits_drop, lits_take]
  congr 1
  by_cases h : lo + n ≤ ws.length
  · rw [Nat.min_eq_left (by omega), Nat.min_eq_left (by omega)]
    congr 1
    omega
  · by_cases h2 : lo ≤ ws.length
    · rw [Nat.min_eq_left h2, Nat.min_eq_right (by omega), List.take_of_length_le (by rw [List.length_drop]; exact Nat.le_refl _), List.take_of_length_le (by rw [List.length_drop]; omega)]
    · rw [Nat.min_eq_right (by omega), Nat.min_eq_right (by omega), List.drop_eq_nil_of_le (Nat.le_refl _), List.drop_eq_nil_of_le (by omega), List.take_nil, List.take_nil]
theorem range_snoc (f : Nat → Nat) (i : Nat) : (List.range (i + 1)).map f = (List.range i).map f ++ [f i] := by
  rw [List.range_succ, List.map_append]
  rfl
theorem rep_snoc {α : Type} (x : α) (i : Nat) : List.replicate (i + 1) x = List.replicate i x ++ [x] := List.replicate_succ'
theorem GAt.nn {CG ga n k : Addr} {H : Hp} {g : Graph} (h : GAt CG ga n k H g) : ∃ vs, H n = some (.lst vs) := by
  obtain ⟨vs, a, _⟩ := h.nodes
  exact ⟨vs, a⟩
theorem lim4000 {s : Sm03.St} (h : WF s.now) : s.now.graph.length + 4000 ≤ LIM := Nat.le_trans (Nat.add_le_add_right h.gl 4000) (by decide)
theorem newG_same {CG ga n k p : Addr} {H H1 : Hp} {g : Graph} {Q : VK} {ws : List Nat} (q : NewG CG ga n k H Q (g, ws)) (hG : GAt CG ga n k H g) (s : Same H H1) (hp : H1 p = none) : Q (.ref p) (upd H1 p (.lst (lits ws))) :=
  newG_of q hG (hG.mono s) (kp_of s) hp
theorem bitA (v i : Nat) : Builtin.bitAnd ((v : Int) / 2 ^ ((i : Int)).toNat) 1 = ((v / 2 ^ i % 2 : Nat) : Int) := by
  rw [Int.toNat_natCast]
  have e : (v : Int) / 2 ^ i = ((v / 2 ^ i : Nat) : Int) := by
    rw [Int.natCast_ediv, Int.natCast_pow]
    rfl
  rw [e]
  generalize v / 2 ^ i = u
  have h := Bits.bitAnd_mask (x := (u : Int)) 1 (by omega)
  have e1 : (2 : Int) ^ 1 - 1 = 1 := by decide
  rw [e1] at h
  rw [h]
  omega
end BC

set_option Elab.async false
set_option linter.all false
set_option maxRecDepth 100000
set_option maxHeartbeats 2000000
namespace BC
open PySem PySem.Spec PyProof.Rows L2
section
variable {P : Program} {w : World} {K : PySem.W.Frag} {mg : Str → Option Value} {base : Heap} {CG CS CW : Addr} {f : Addr} {fd : FuncData}
abbrev s_State_has : Stmt := inClass (top 101) 1
abbrev N_State_has : List Str := ["self", "name"]
theorem sc_State_has : FnScope N_State_has ["self", "name"] (defScope s_State_has) := ⟨rfl, rfl, rfl, by decide +kernel, rfl, by decide +kernel, by decide +kernel⟩
theorem ok_State_has (F : Fun K "has" "State.has" s_State_has f fd) (b_len : mg "len" = none) (T_State : TState K CS) : FnOk P w K mg base CX0 1 f fd ["self", "name"] (spHas CS CG) := by
  refine F.ok sc_State_has (fun vs H Q E h => ?_) (fun cdv A outer s H vs Q E hr h => ?_)
  · obtain ⟨_, _, _, rfl, _⟩ := h
    rfl
  · obtain ⟨A, s, t, rfl, hS, q⟩ := h
    obtain ⟨dx, h1⟩ := hS.ins
    obtain ⟨rs, h2, h3⟩ := hS.terms
    have hu := hu_of hr
    refine ⟨_, (pss_one (ps_ret (pe_cmpR op_lt (pv 1) (pe_callB call_len_seq (by rfl) b_len PySem.boot_len (pa_cons (pe_fld (pv 0) rfl) pa_nil)) (nomark _)))), ?_⟩
    refine ⟨_, rfl, _, rfl, A.sa, CS, dx, _, _, rfl, h1, T_State.cl, T_State.nT, sF_terms A, A.pt, _, rfl, .inl (.inl (.inl h2)), _, _, rfl, rfl, ?_⟩
    rw [List.length_map, h3.len]
    show Q (.bl (decide ((t : Int) < ((s.now.terms.length : Nat) : Int)))) H
    rw [show decide ((t : Int) < ((s.now.terms.length : Nat) : Int)) = decide (t < s.now.terms.length) from decide_eq_decide.mpr (by omega)]
    exact q

abbrev s_State_width : Stmt := inClass (top 101) 2
abbrev N_State_width : List Str := ["self", "name"]
theorem sc_State_width : FnScope N_State_width ["self", "name"] (defScope s_State_width) := ⟨rfl, rfl, rfl, by decide +kernel, rfl, by decide +kernel, by decide +kernel⟩
theorem ok_State_width (F : Fun K "width" "State.width" s_State_width f fd) (b_len : mg "len" = none) (T_State : TState K CS) : FnOk P w K mg base CX0 1 f fd ["self", "name"] (spWidth CS CG) := by
  refine F.ok sc_State_width (fun vs H Q E h => ?_) (fun cdv A outer s H vs Q E hr h => ?_)
  · obtain ⟨_, _, _, rfl, _⟩ := h
    rfl
  · obtain ⟨A, s, t, rfl, hS, ht, q⟩ := h
    obtain ⟨dx, h1⟩ := hS.ins
    obtain ⟨rs, r, h2, h3, h4⟩ := hS.word ht
    have hu := hu_of hr
    refine ⟨_, (pss_one (ps_ret (pe_callB call_len_seq (by rfl) b_len PySem.boot_len (pa_cons (pe_ix ix_list (pe_fld (pv 0) rfl) (pv 1) (fun _ _ => rfl)) pa_nil)))), ?_⟩
    refine ⟨_, rfl, A.sa, CS, dx, _, _, rfl, h1, T_State.cl, T_State.nT, sF_terms A, _, rfl, A.pt, _, _, _, rfl, rfl, .inl (.inl h2), atI_nat h3, r, _, rfl, .inl (.inl (.inl h4.1)), ?_⟩
    rw [lits_len]
    exact q

abbrev s_State_bits_of_inputs : Stmt := inClass (top 101) 3
abbrev N_State_bits_of_inputs : List Str := ["self", "name"]
theorem sc_State_bits_of_inputs : FnScope N_State_bits_of_inputs ["self"] (defScope s_State_bits_of_inputs) := ⟨rfl, rfl, rfl, by decide +kernel, rfl, by decide +kernel, by decide +kernel⟩
theorem ok_State_bits_of_inputs (F : Fun K "bits_of_inputs" "State.bits_of_inputs" s_State_bits_of_inputs f fd) (b_sum : mg "sum" = none) (T_State : TState K CS) (D_width : DM P w K mg base CS 1 "width" (spWidth CS CG)) : FnOk P w K mg base CX0 2 f fd ["self"] (spBits CS CG) := by
  refine F.ok sc_State_bits_of_inputs (fun vs H Q E h => ?_) (fun cdv A outer s H vs Q E hr h => ?_)
  · obtain ⟨_, _, rfl, _⟩ := h
    rfl
  · obtain ⟨A, s, rfl, hS, q⟩ := h
    obtain ⟨dx, h1⟩ := hS.ins
    have hu := hu_of hr
    refine ⟨_, (pss_one (ps_ret (pe_callB (cr_sum rfl) (by rfl) b_sum (by decide +kernel) (pa_cons (pe_lc (own := [("name", 1)]) (g := gName 1) (tt := tYes) rfl sc_State_bits_of_inputs.nd (pi_list (pe_fld (pv 0) rfl)) (blkOk_by (N := N_State_bits_of_inputs) (sc := defScope s_State_bits_of_inputs) (by decide +kernel)) (fun _ _ _ _ _ => (pg_name (i := 1) sc_State_bits_of_inputs.nd rfl (Or.inl rfl))) (fun _ _ _ _ _ => pts_nil) (fun _ _ _ _ _ => (pe_dm (pv 0) D_width hr (pa_cons (pv 1) pa_nil)))) pa_nil)))), ?_⟩
    have hW := hS.wf
    refine ⟨_, rfl, A.sa, CS, dx, _, _, rfl, h1, T_State.cl, T_State.nI, sF_inputs A, A.pi, rfl, ⟨_, .inl (.inl hS.inputs)⟩, fun D hD => ?_⟩
    have il : (inIdx 0 s.now.terms).length ≤ 30 := by
      rw [inIdx_len]
      exact Nat.le_trans (List.length_filterMap_le _ _) hW.tl
    refine lc_it (walk_list (K := K) (a := A.pi) (xs := lits (inIdx 0 s.now.terms))) (fun i H1 => Same H H1 ∧ H1 D = some (.lst (lits (((inIdx 0 s.now.terms).take i).map (Sm03.widthOf s.now.terms))))) ⟨same_upd hD, upd_same⟩ (fun i H1 _ h => .inl (.inl (h.1 _ _ hS.inputs))) ?_ ?_
    · rintro i v H0 H1 hi ⟨s1, e1⟩ ⟨rfl, hx'⟩
      obtain ⟨x, hx, rfl⟩ := lits_at hx'
      rw [lits_len] at hi
      have hxl := (inIdx_lt _ _ _ (List.mem_of_getElem? hx)).2
      have hS1 := hS.same s1
      obtain ⟨dx1, h11⟩ := hS1.ins
      refine ⟨rfl, yes_of (if_true_of rfl ?_)⟩
      refine ⟨_, rfl, A.sa, dx1, _, rfl, h11, by rfl, _, rfl, A, s, x, rfl, hS1, by omega, _, e1, lim_lt (by rw [lits_len, List.length_map, List.length_take]; exact Nat.le_trans (Nat.min_le_right _ _) (Nat.le_trans il (by decide))), same_updN s1 hD, ?_⟩
      rw [upd_same, List.take_add_one, hx, List.map_append, lits_app]
      rfl
    · rintro H1 ⟨s1, e1⟩
      rw [lits_len, List.take_length] at e1
      have iw := in_widths s.now.terms [] hW.iw
      rw [List.nil_append] at iw
      have iw' : (inIdx 0 s.now.terms).map (Sm03.widthOf s.now.terms) = Sm03.inputs s.now.terms := iw
      rw [iw'] at e1
      refine ⟨D, (Sm03.inputs s.now.terms).map (fun (x : Nat) => (x : Int)), rfl, .inl (.inl ?_), ?_⟩
      · rw [List.map_map]
        exact e1
      · rw [sum_cast, ← total_sum]
        exact q H1 s1

abbrev s_bad_width : Stmt := top 60
abbrev N_bad_width : List Str := ["w"]
theorem sc_bad_width : FnScope N_bad_width ["w"] (defScope s_bad_width) := ⟨rfl, rfl, rfl, by decide +kernel, rfl, by decide +kernel, by decide +kernel⟩
theorem ok_bad_width (F : Fun K "bad_width" "bad_width" s_bad_width f fd) (g_MOST_WIDTH : GI mg "MOST_WIDTH" 8) : FnOk P w K mg base CX0 1 f fd ["w"] (spBad) := by
  refine F.ok sc_bad_width (fun vs H Q E h => ?_) (fun cdv A outer s H vs Q E hr h => ?_)
  · obtain ⟨_, rfl, _⟩ := h
    rfl
  · obtain ⟨w, rfl, q⟩ := h
    have hu := hu_of hr
    refine ⟨_, (pss_one (ps_ret (pe_or (pe_cmpR op_lt (pv 0) pe_int (nomark _)) (pe_one (pe_cmpR op_gt (pv 0) (pe_gi g_MOST_WIDTH) (nomark _)))))), ?_⟩
    refine or_val (decide ((w : Int) < 1)) (decide ((8 : Int) < (w : Int))) (fun R r => ⟨_, rfl, _, _, rfl, rfl, r⟩) (fun R r => ⟨_, rfl, _, _, rfl, rfl, r⟩) ?_
    rw [← Bool.decide_or, show decide ((w : Int) < 1 ∨ (8 : Int) < (w : Int)) = decide (w = 0 ∨ 8 < w) from decide_eq_decide.mpr (by omega)]
    exact q

abbrev s_unfit_input : Stmt := top 61
abbrev N_unfit_input : List Str := ["state", "numbers"]
theorem sc_unfit_input : FnScope N_unfit_input ["state", "numbers"] (defScope s_unfit_input) := ⟨rfl, rfl, rfl, by decide +kernel, rfl, by decide +kernel, by decide +kernel⟩
theorem ok_unfit_input (F : Fun K "unfit_input" "unfit_input" s_unfit_input f fd) (D_bad_width : DF P w K mg base 1 "bad_width" (spBad)) : FnOk P w K mg base CX0 2 f fd ["state", "numbers"] (spUnfit CS CG 0) := by
  refine F.ok sc_unfit_input (fun vs H Q E h => ?_) (fun cdv A outer s H vs Q E hr h => ?_)
  · obtain ⟨_, _, _, _, _, rfl, _⟩ := h
    rfl
  · obtain ⟨A, s, nn, nums, t, rfl, hS, hn, ht, h2, q⟩ := h
    obtain ⟨w, rfl, rfl⟩ := tm0 ht
    have hu := hu_of hr
    refine ⟨_, (pss_one (ps_ret (pe_df D_bad_width hr (pa_cons (pe_ix ix_list (pv 1) pe_int (fun _ _ => rfl)) pa_nil)))), ?_⟩
    refine ⟨_, rfl, nn, _, _, _, rfl, rfl, .inl (.inl hn), at0 _ _, w, rfl, ?_⟩
    rw [show decide (w = 0 ∨ 8 < w) = decide (Sm03.wrong s.now.terms (.input w) < 0) from decide_eq_decide.mpr wr_input.symm]
    exact q H (Same.refl H)

abbrev s_unfit_const : Stmt := top 62
abbrev N_unfit_const : List Str := ["state", "numbers"]
theorem sc_unfit_const : FnScope N_unfit_const ["state", "numbers"] (defScope s_unfit_const) := ⟨rfl, rfl, rfl, by decide +kernel, rfl, by decide +kernel, by decide +kernel⟩
theorem ok_unfit_const (F : Fun K "unfit_const" "unfit_const" s_unfit_const f fd) (D_bad_width : DF P w K mg base 1 "bad_width" (spBad)) : FnOk P w K mg base CX0 2 f fd ["state", "numbers"] (spUnfit CS CG 1) := by
  refine F.ok sc_unfit_const (fun vs H Q E h => ?_) (fun cdv A outer s H vs Q E hr h => ?_)
  · obtain ⟨_, _, _, _, _, rfl, _⟩ := h
    rfl
  · obtain ⟨A, s, nn, nums, t, rfl, hS, hn, ht, h2, q⟩ := h
    obtain ⟨w, v, rfl, rfl⟩ := tm1 ht
    have hu := hu_of hr
    refine ⟨_, (pss_one (ps_ret (pe_or (pe_df D_bad_width hr (pa_cons (pe_ix ix_list (pv 1) pe_int (fun _ _ => rfl)) pa_nil)) (pe_one (pe_cmpR op_gt (pe_bits (pe_ix ix_list (pv 1) pe_int (fun _ _ => rfl))) (pe_ix ix_list (pv 1) pe_int (fun _ _ => rfl)) (nomark _)))))), ?_⟩
    refine or_val (decide (w = 0 ∨ 8 < w)) (decide (2 ^ w ≤ v)) (fun R r => ⟨_, rfl, nn, _, _, _, rfl, rfl, .inl (.inl hn), at0 _ _, w, rfl, r⟩) (fun R r => ⟨_, rfl, nn, _, _, _, rfl, rfl, .inl (.inl hn), at1 _ _ _, _, rfl, _, rfl, nn, _, _, _, rfl, rfl, .inl (.inl hn), at0 _ _, _, _, rfl, rfl, ?_⟩) ?_
    · have e : decide ((w : Int) < ((Builtin.Int.intBits (v : Int) : Nat) : Int)) = decide (2 ^ w ≤ v) := decide_eq_decide.mpr (by
        have := @KE_bits w (v : Int)
        rw [Int.natAbs_natCast] at this
        omega)
      show R (.bl (decide ((w : Int) < ((Builtin.Int.intBits (v : Int) : Nat) : Int)))) H
      rw [e]
      exact r
    rw [← Bool.decide_or, show decide ((w = 0 ∨ 8 < w) ∨ 2 ^ w ≤ v) = decide (Sm03.wrong s.now.terms (.const w v) < 0) from decide_eq_decide.mpr wr_const.symm]
    exact q H (Same.refl H)

abbrev s_unfit_one : Stmt := top 63
abbrev N_unfit_one : List Str := ["state", "numbers"]
theorem sc_unfit_one : FnScope N_unfit_one ["state", "numbers"] (defScope s_unfit_one) := ⟨rfl, rfl, rfl, by decide +kernel, rfl, by decide +kernel, by decide +kernel⟩
theorem ok_unfit_one (F : Fun K "unfit_one" "unfit_one" s_unfit_one f fd) : FnOk P w K mg base CX0 1 f fd ["state", "numbers"] (spUnfit1 CS CG) := by
  refine F.ok sc_unfit_one (fun vs H Q E h => ?_) (fun cdv A outer s H vs Q E hr h => ?_)
  · obtain ⟨_, _, _, _, _, rfl, _⟩ := h
    rfl
  · obtain ⟨A, s, nn, nums, t, rfl, hS, hn, ht, h2, q⟩ := h
    have hu := hu_of hr
    refine ⟨_, (pss_one (ps_ret pe_bl)), ?_⟩
    have e : Sm03.wrong s.now.terms t = 0 := by
      rcases ht with ht | ht
      · obtain ⟨a, rfl, rfl⟩ := tm2 ht
        exact (wr_one h2).2
      · obtain ⟨a, rfl, rfl⟩ := tm3 ht
        exact (wr_neg h2).2
    rw [e] at q
    exact q H (Same.refl H)

abbrev s_unfit_two : Stmt := top 64
abbrev N_unfit_two : List Str := ["state", "numbers"]
theorem sc_unfit_two : FnScope N_unfit_two ["state", "numbers"] (defScope s_unfit_two) := ⟨rfl, rfl, rfl, by decide +kernel, rfl, by decide +kernel, by decide +kernel⟩
theorem ok_unfit_two (F : Fun K "unfit_two" "unfit_two" s_unfit_two f fd) (D_width : DM P w K mg base CS 1 "width" (spWidth CS CG)) : FnOk P w K mg base CX0 2 f fd ["state", "numbers"] (spUnfit CS CG 4) := by
  refine F.ok sc_unfit_two (fun vs H Q E h => ?_) (fun cdv A outer s H vs Q E hr h => ?_)
  · obtain ⟨_, _, _, _, _, rfl, _⟩ := h
    rfl
  · obtain ⟨A, s, nn, nums, t, rfl, hS, hn, ht, h2, q⟩ := h
    obtain ⟨o, a, b, x, rfl, ho, rfl⟩ := tm4 ht
    obtain ⟨ha, hb, hw⟩ := wr_two h2
    obtain ⟨dx, h1⟩ := hS.ins
    have hu := hu_of hr
    refine ⟨_, (pss_one (ps_ret (pe_cmpR op_ne (pe_dm (pv 0) D_width hr (pa_cons (pe_ix ix_list (pv 1) pe_int (fun _ _ => rfl)) pa_nil)) (pe_dm (pv 0) D_width hr (pa_cons (pe_ix ix_list (pv 1) pe_int (fun _ _ => rfl)) pa_nil)) (nomark _)))), ?_⟩
    refine ⟨_, rfl, A.sa, dx, _, rfl, h1, by rfl, _, rfl, nn, _, _, _, rfl, rfl, .inl (.inl hn), at1 _ _ _, A, s, a, rfl, hS, ha, ?_⟩
    refine ⟨_, rfl, A.sa, dx, _, rfl, h1, by rfl, _, rfl, nn, _, _, _, rfl, rfl, .inl (.inl hn), at2 _ _ _ _, A, s, b, rfl, hS, hb, rfl, ?_⟩
    rw [dec_ne, show decide (¬ Sm03.widthOf s.now.terms a = Sm03.widthOf s.now.terms b) = decide (Sm03.wrong s.now.terms (.two x a b) < 0) from decide_eq_decide.mpr hw.symm]
    exact q H (Same.refl H)

abbrev s_unfit_join : Stmt := top 65
abbrev N_unfit_join : List Str := ["state", "numbers"]
theorem sc_unfit_join : FnScope N_unfit_join ["state", "numbers"] (defScope s_unfit_join) := ⟨rfl, rfl, rfl, by decide +kernel, rfl, by decide +kernel, by decide +kernel⟩
theorem ok_unfit_join (F : Fun K "unfit_join" "unfit_join" s_unfit_join f fd) (D_bad_width : DF P w K mg base 1 "bad_width" (spBad)) (D_width : DM P w K mg base CS 1 "width" (spWidth CS CG)) : FnOk P w K mg base CX0 2 f fd ["state", "numbers"] (spUnfit CS CG 5) := by
  refine F.ok sc_unfit_join (fun vs H Q E h => ?_) (fun cdv A outer s H vs Q E hr h => ?_)
  · obtain ⟨_, _, _, _, _, rfl, _⟩ := h
    rfl
  · obtain ⟨A, s, nn, nums, t, rfl, hS, hn, ht, h2, q⟩ := h
    obtain ⟨a, b, rfl, rfl⟩ := tm5 ht
    obtain ⟨ha, hb, hw⟩ := wr_join h2
    obtain ⟨dx, h1⟩ := hS.ins
    have hu := hu_of hr
    refine ⟨_, (pss_one (ps_ret (pe_df D_bad_width hr (pa_cons (pe_op op_add (pe_dm (pv 0) D_width hr (pa_cons (pe_ix ix_list (pv 1) pe_int (fun _ _ => rfl)) pa_nil)) (pe_dm (pv 0) D_width hr (pa_cons (pe_ix ix_list (pv 1) pe_int (fun _ _ => rfl)) pa_nil))) pa_nil)))), ?_⟩
    have wa : 1 ≤ Sm03.widthOf s.now.terms a := (hS.wf.width ha).1
    refine ⟨_, rfl, A.sa, dx, _, rfl, h1, by rfl, _, rfl, nn, _, _, _, rfl, rfl, .inl (.inl hn), at0 _ _, A, s, a, rfl, hS, ha, ?_⟩
    refine ⟨_, rfl, A.sa, dx, _, rfl, h1, by rfl, _, rfl, nn, _, _, _, rfl, rfl, .inl (.inl hn), at1 _ _ _, A, s, b, rfl, hS, hb, _, _, rfl, rfl, ?_⟩
    refine ⟨Sm03.widthOf s.now.terms a + Sm03.widthOf s.now.terms b, ?_, ?_⟩
    · show [V.int (((Sm03.widthOf s.now.terms a : Nat) : Int) + ((Sm03.widthOf s.now.terms b : Nat) : Int))] = _
      rw [show ((Sm03.widthOf s.now.terms a : Nat) : Int) + ((Sm03.widthOf s.now.terms b : Nat) : Int) = ((Sm03.widthOf s.now.terms a + Sm03.widthOf s.now.terms b : Nat) : Int) by omega]
    rw [show decide (Sm03.widthOf s.now.terms a + Sm03.widthOf s.now.terms b = 0 ∨ 8 < Sm03.widthOf s.now.terms a + Sm03.widthOf s.now.terms b) = decide (Sm03.wrong s.now.terms (.join a b) < 0) from decide_eq_decide.mpr (by rw [hw]; omega)]
    exact q H (Same.refl H)

abbrev s_unfit_cut : Stmt := top 66
abbrev N_unfit_cut : List Str := ["state", "numbers"]
theorem sc_unfit_cut : FnScope N_unfit_cut ["state", "numbers"] (defScope s_unfit_cut) := ⟨rfl, rfl, rfl, by decide +kernel, rfl, by decide +kernel, by decide +kernel⟩
theorem ok_unfit_cut (F : Fun K "unfit_cut" "unfit_cut" s_unfit_cut f fd) (D_width : DM P w K mg base CS 1 "width" (spWidth CS CG)) : FnOk P w K mg base CX0 2 f fd ["state", "numbers"] (spUnfit CS CG 6) := by
  refine F.ok sc_unfit_cut (fun vs H Q E h => ?_) (fun cdv A outer s H vs Q E hr h => ?_)
  · obtain ⟨_, _, _, _, _, rfl, _⟩ := h
    rfl
  · obtain ⟨A, s, nn, nums, t, rfl, hS, hn, ht, h2, q⟩ := h
    obtain ⟨a, lo, n, rfl, rfl⟩ := tm6 ht
    obtain ⟨ha, hw⟩ := wr_cut h2
    obtain ⟨dx, h1⟩ := hS.ins
    have hu := hu_of hr
    refine ⟨_, (pss_one (ps_ret (pe_or (pe_cmpR op_eq (pe_ix ix_list (pv 1) pe_int (fun _ _ => rfl)) pe_int (nomark _)) (pe_one (pe_cmpR op_gt (pe_op op_add (pe_ix ix_list (pv 1) pe_int (fun _ _ => rfl)) (pe_ix ix_list (pv 1) pe_int (fun _ _ => rfl))) (pe_dm (pv 0) D_width hr (pa_cons (pe_ix ix_list (pv 1) pe_int (fun _ _ => rfl)) pa_nil)) (nomark _)))))), ?_⟩
    refine or_val (decide (V.int (n : Int) = V.int ((0 : Nat) : Int))) (decide ((Sm03.widthOf s.now.terms a : Int) < (lo : Int) + (n : Int))) (fun R r => ⟨_, rfl, nn, _, _, _, rfl, rfl, .inl (.inl hn), at2 _ _ _ _, rfl, r⟩)
      (fun R r => ⟨_, rfl, nn, _, _, _, rfl, rfl, .inl (.inl hn), at1 _ _ _, _, rfl, nn, _, _, _, rfl, rfl, .inl (.inl hn), at2 _ _ _ _, _, _, rfl, rfl, _, rfl, A.sa, dx, _, rfl, h1, by rfl, _, rfl, nn, _, _, _, rfl, rfl, .inl (.inl hn), at0 _ _, A, s, a, rfl, hS, ha, _, _, rfl, rfl, r⟩) ?_
    rw [dec_eqN, ← Bool.decide_or, show decide (n = 0 ∨ (Sm03.widthOf s.now.terms a : Int) < (lo : Int) + (n : Int)) = decide (Sm03.wrong s.now.terms (.cut a lo n) < 0) from decide_eq_decide.mpr (by rw [hw]; omega)]
    exact q H (Same.refl H)

abbrev s_unfit_wider : Stmt := top 67
abbrev N_unfit_wider : List Str := ["state", "numbers"]
theorem sc_unfit_wider : FnScope N_unfit_wider ["state", "numbers"] (defScope s_unfit_wider) := ⟨rfl, rfl, rfl, by decide +kernel, rfl, by decide +kernel, by decide +kernel⟩
theorem ok_unfit_wider (F : Fun K "unfit_wider" "unfit_wider" s_unfit_wider f fd) (D_bad_width : DF P w K mg base 1 "bad_width" (spBad)) (D_width : DM P w K mg base CS 1 "width" (spWidth CS CG)) : FnOk P w K mg base CX0 2 f fd ["state", "numbers"] (spUnfitW CS CG) := by
  refine F.ok sc_unfit_wider (fun vs H Q E h => ?_) (fun cdv A outer s H vs Q E hr h => ?_)
  · obtain ⟨_, _, _, _, _, _, _, rfl, _⟩ := h
    rfl
  · obtain ⟨A, s, nn, nums, a, w, sg, rfl, hS, hn, rfl, h2, q⟩ := h
    obtain ⟨ha, hw⟩ := wr_wide h2
    obtain ⟨dx, h1⟩ := hS.ins
    have hu := hu_of hr
    refine ⟨_, (pss_one (ps_ret (pe_or (pe_cmpR op_lt (pe_ix ix_list (pv 1) pe_int (fun _ _ => rfl)) (pe_dm (pv 0) D_width hr (pa_cons (pe_ix ix_list (pv 1) pe_int (fun _ _ => rfl)) pa_nil)) (nomark _)) (pe_one (pe_df D_bad_width hr (pa_cons (pe_ix ix_list (pv 1) pe_int (fun _ _ => rfl)) pa_nil)))))), ?_⟩
    have wa : 1 ≤ Sm03.widthOf s.now.terms a := (hS.wf.width ha).1
    refine or_val (decide ((w : Int) < (Sm03.widthOf s.now.terms a : Int))) (decide (w = 0 ∨ 8 < w))
      (fun R r => ⟨_, rfl, nn, _, _, _, rfl, rfl, .inl (.inl hn), at1 _ _ _, _, rfl, A.sa, dx, _, rfl, h1, by rfl, _, rfl, nn, _, _, _, rfl, rfl, .inl (.inl hn), at0 _ _, A, s, a, rfl, hS, ha, _, _, rfl, rfl, r⟩)
      (fun R r => ⟨_, rfl, nn, _, _, _, rfl, rfl, .inl (.inl hn), at1 _ _ _, w, rfl, r⟩) ?_
    rw [← Bool.decide_or, show decide ((w : Int) < (Sm03.widthOf s.now.terms a : Int) ∨ (w = 0 ∨ 8 < w)) = decide (Sm03.wrong s.now.terms (.wide sg a w) < 0) from decide_eq_decide.mpr (by rw [hw]; omega)]
    exact q H (Same.refl H)

abbrev s_unfit_pick : Stmt := top 68
abbrev N_unfit_pick : List Str := ["state", "numbers"]
theorem sc_unfit_pick : FnScope N_unfit_pick ["state", "numbers"] (defScope s_unfit_pick) := ⟨rfl, rfl, rfl, by decide +kernel, rfl, by decide +kernel, by decide +kernel⟩
theorem ok_unfit_pick (F : Fun K "unfit_pick" "unfit_pick" s_unfit_pick f fd) (D_width : DM P w K mg base CS 1 "width" (spWidth CS CG)) : FnOk P w K mg base CX0 2 f fd ["state", "numbers"] (spUnfit CS CG 9) := by
  refine F.ok sc_unfit_pick (fun vs H Q E h => ?_) (fun cdv A outer s H vs Q E hr h => ?_)
  · obtain ⟨_, _, _, _, _, rfl, _⟩ := h
    rfl
  · obtain ⟨A, s, nn, nums, t, rfl, hS, hn, ht, h2, q⟩ := h
    obtain ⟨c, a, b, rfl, rfl⟩ := tm9 ht
    obtain ⟨hc, ha, hb, hw⟩ := wr_pick h2
    obtain ⟨dx, h1⟩ := hS.ins
    have hu := hu_of hr
    refine ⟨_, (pss_one (ps_ret (pe_or (pe_cmpR op_ne (pe_dm (pv 0) D_width hr (pa_cons (pe_ix ix_list (pv 1) pe_int (fun _ _ => rfl)) pa_nil)) pe_int (nomark _)) (pe_one (pe_cmpR op_ne (pe_dm (pv 0) D_width hr (pa_cons (pe_ix ix_list (pv 1) pe_int (fun _ _ => rfl)) pa_nil)) (pe_dm (pv 0) D_width hr (pa_cons (pe_ix ix_list (pv 1) pe_int (fun _ _ => rfl)) pa_nil)) (nomark _)))))), ?_⟩
    refine or_val (!decide (V.int ((Sm03.widthOf s.now.terms c : Nat) : Int) = V.int ((1 : Nat) : Int))) (!decide (V.int ((Sm03.widthOf s.now.terms a : Nat) : Int) = V.int ((Sm03.widthOf s.now.terms b : Nat) : Int)))
      (fun R r => ⟨_, rfl, A.sa, dx, _, rfl, h1, by rfl, _, rfl, nn, _, _, _, rfl, rfl, .inl (.inl hn), at0 _ _, A, s, c, rfl, hS, hc, rfl, r⟩)
      (fun R r => ⟨_, rfl, A.sa, dx, _, rfl, h1, by rfl, _, rfl, nn, _, _, _, rfl, rfl, .inl (.inl hn), at1 _ _ _, A, s, a, rfl, hS, ha, _, rfl, A.sa, dx, _, rfl, h1, by rfl, _, rfl, nn, _, _, _, rfl, rfl, .inl (.inl hn), at2 _ _ _ _, A, s, b, rfl, hS, hb, rfl, r⟩) ?_
    rw [dec_ne, dec_ne, ← Bool.decide_or, show decide (¬ Sm03.widthOf s.now.terms c = 1 ∨ ¬ Sm03.widthOf s.now.terms a = Sm03.widthOf s.now.terms b) = decide (Sm03.wrong s.now.terms (.pick c a b) < 0) from decide_eq_decide.mpr hw.symm]
    exact q H (Same.refl H)
end
end BC

set_option Elab.async false
set_option linter.all false
set_option maxRecDepth 100000
set_option maxHeartbeats 2000000
namespace BC
open PySem PySem.Spec PyProof.Rows L2
section
variable {P : Program} {w : World} {K : PySem.W.Frag} {mg : Str → Option Value} {base : Heap} {CG CS CW : Addr} {f : Addr} {fd : FuncData}
abbrev s_make_input : Stmt := top 69
abbrev N_make_input : List Str := ["state", "numbers", "i"]
theorem sc_make_input : FnScope N_make_input ["state", "numbers"] (defScope s_make_input) := ⟨rfl, rfl, rfl, by decide +kernel, rfl, by decide +kernel, by decide +kernel⟩
theorem ok_make_input (F : Fun K "make_input" "make_input" s_make_input f fd) (b_range : mg "range" = none) (T_State : TState K CS) (D_fresh : DM P w K mg base CG 1 "fresh" (spFresh CG)) : FnOk P w K mg base CX0 2 f fd ["state", "numbers"] (spMake CS CG 0) := by
  refine F.ok sc_make_input (fun vs H Q E h => ?_) (fun cdv A outer s H vs Q E hr h => ?_)
  · obtain ⟨_, _, _, _, _, rfl, _⟩ := h
    rfl
  · obtain ⟨A, s, nn, nums, t, rfl, hS, hn, hnn, ht, hw, q⟩ := h
    obtain ⟨w, rfl, rfl⟩ := tm0 ht
    have hu := hu_of hr
    refine ⟨_, (pss_one (ps_ret (pe_lc (own := [("i", 2)]) (g := gName 2) (tt := tYes) (te := tMeth CG "fresh" (spFresh CG) [] E0 (tFld K (tVar 0) "gates") tNil) rfl sc_make_input.nd (pi_range1 (by rfl) b_range (pa_cons (pe_ix ix_list (pv 1) pe_int (fun _ _ => rfl)) pa_nil)) (blkOk_by (N := N_make_input) (sc := defScope s_make_input) (by decide +kernel)) (fun _ _ _ _ _ => (pg_name (i := 2) sc_make_input.nd rfl (Or.inl rfl))) (fun _ _ _ _ _ => pts_nil) (fun _ _ _ _ _ => (pe_dm0 (pe_fld (pv 0) rfl) D_fresh hr))))), ?_⟩
    have w8 : w ≤ 8 := Decidable.byContradiction fun z => by
      have := (wr_input (es := s.now.terms) (w := w)).mpr (.inr (by omega))
      omega
    have gl := hS.wf.gl
    have gt := hS.gat
    refine ⟨_, rfl, nn, _, _, _, rfl, rfl, .inl (.inl hn), at0 _ _, (w : Int), rfl, by omega, by omega, ?_⟩
    intro D hD
    have dn : D ≠ A.n := gt.fresh_n hD
    have dk : D ≠ A.k := gt.fresh_k hD
    have hL : (8 : Nat) ≤ LIM := by decide
    rw [Int.toNat_natCast]
    refine lc_it walk_range (fun i H1 => GAt CG A.ga A.n A.k H1 (s.now.graph ++ List.replicate i .bit) ∧ Kp A.n A.k H H1 ∧ H1 D = some (.lst (lits ((List.range i).map fun j => 2 * (s.now.graph.length + 1 + j)))))
      ⟨by rw [List.replicate_zero, List.append_nil]; exact gt.mono (same_upd hD), kp_of (same_upd hD), upd_same⟩ (fun _ _ _ _ => trivial) ?_ ?_
    · rintro i v H0 H1 hi ⟨hG1, k1, e1⟩ ⟨rfl, rfl⟩
      obtain ⟨dx, h1⟩ := (hS.kp hG1 k1).ins
      obtain ⟨dg, hg⟩ := hG1.ins
      refine ⟨rfl, yes_of (if_true_of rfl ?_)⟩
      refine ⟨_, rfl, A.sa, CS, dx, _, _, rfl, h1, T_State.cl, T_State.nG, sF_gates A, A.ga, dg, _, rfl, hg, by rfl, A.ga, A.n, A.k, _, rfl, hG1, ?_, fun H2 hG2 k2 => ?_⟩
      · rw [List.length_append, List.length_replicate]
        have : (2000 : Nat) < LIM := by decide
        omega
      · have e2 := k2 _ _ e1 dn dk
        refine ⟨_, e2, lim_lt (by rw [lits_len, List.length_map, List.length_range]; omega), ?_, kp_upd (k1.trans k2) hD, ?_⟩
        · have := hG2.updL (ys := lits ((List.range i).map fun j => 2 * (s.now.graph.length + 1 + j)) ++ [V.int ((2 * ((s.now.graph ++ List.replicate i Sm03.Node.bit).length + 1) : Nat) : Int)]) e2 dn
          rw [rep_snoc, ← List.append_assoc]
          exact this
        · rw [upd_same, range_snoc, lits_app, List.length_append, List.length_replicate, show 2 * (s.now.graph.length + i + 1) = 2 * (s.now.graph.length + 1 + i) by omega]
          rfl
    · rintro H1 ⟨hG1, k1, e1⟩
      exact q D H1 hG1 k1 hD e1

abbrev s_make_const : Stmt := top 70
abbrev N_make_const : List Str := ["state", "numbers", "i"]
theorem sc_make_const : FnScope N_make_const ["state", "numbers"] (defScope s_make_const) := ⟨rfl, rfl, rfl, by decide +kernel, rfl, by decide +kernel, by decide +kernel⟩
theorem ok_make_const (F : Fun K "make_const" "make_const" s_make_const f fd) (b_range : mg "range" = none) (g_ALWAYS : GI mg "ALWAYS" 1) (g_NEVER : GI mg "NEVER" 0) : FnOk P w K mg base CX0 1 f fd ["state", "numbers"] (spMake CS CG 1) := by
  refine F.ok sc_make_const (fun vs H Q E h => ?_) (fun cdv A outer s H vs Q E hr h => ?_)
  · obtain ⟨_, _, _, _, _, rfl, _⟩ := h
    rfl
  · obtain ⟨A, s, nn, nums, t, rfl, hS, hn, hnn, ht, hw, q⟩ := h
    obtain ⟨w, v, rfl, rfl⟩ := tm1 ht
    have hu := hu_of hr
    refine ⟨_, (pss_one (ps_ret (pe_lc (own := [("i", 2)]) (g := gName 2) (tt := tYes) (te := tIf (tTest (tOp rEq (tOp (rI0 fun i j => .int (Builtin.bitAnd i j)) (tOp (rI (fun _ j => 0 ≤ j) fun i j => .int (i / 2 ^ j.toNat)) (tOp (rIxL K) (tVar 1) (tC (.int 1))) (tVar 2)) (tC (.int 1))) (tC (.int 1)))) (tC (.int 1)) (tC (.int 0))) rfl sc_make_const.nd (pi_range1 (by rfl) b_range (pa_cons (pe_ix ix_list (pv 1) pe_int (fun _ _ => rfl)) pa_nil)) (blkOk_by (N := N_make_const) (sc := defScope s_make_const) (by decide +kernel)) (fun _ _ _ _ _ => (pg_name (i := 2) sc_make_const.nd rfl (Or.inl rfl))) (fun _ _ _ _ _ => pts_nil) (fun _ _ _ _ _ => (pe_ifExp (pt_cmpR op_eq (pe_op op_and (pe_op op_shr (pe_ix ix_list (pv 1) pe_int (fun _ _ => rfl)) (pv 2)) pe_int) pe_int (nomark _)) (pe_gi g_ALWAYS) (pe_gi g_NEVER)))))), ?_⟩
    have w8 : w ≤ 8 := Decidable.byContradiction fun z => by
      have := (wr_const (es := s.now.terms) (w := w) (v := v)).mpr (.inl (.inr (by omega)))
      omega
    have gt := hS.gat
    refine ⟨_, rfl, nn, _, _, _, rfl, rfl, .inl (.inl hn), at0 _ _, (w : Int), rfl, by omega, by omega, ?_⟩
    intro D hD
    have hL : (8 : Nat) ≤ LIM := by decide
    rw [Int.toNat_natCast]
    refine lc_it walk_range (fun i H1 => Same H H1 ∧ H1 D = some (.lst (lits ((List.range i).map fun j => v / 2 ^ j % 2)))) ⟨same_upd hD, upd_same⟩ (fun _ _ _ _ => trivial) ?_ ?_
    · rintro i x H0 H1 hi ⟨s1, e1⟩ ⟨rfl, rfl⟩
      refine ⟨rfl, yes_of (if_true_of rfl ?_)⟩
      refine tIf_known (.int ((v / 2 ^ i % 2 : Nat) : Int)) (fun R r => ?_) ?_
      · refine ⟨_, rfl, nn, _, _, _, rfl, rfl, .inl (.inl (s1 _ _ hn)), at1 _ _ _, _, rfl, _, _, rfl, rfl, by omega, _, _, rfl, rfl, rfl, _, rfl, ?_⟩
        show if decide (V.int (Builtin.bitAnd ((v : Int) / 2 ^ ((0 : Int) + (i : Int)).toNat) 1) = V.int 1) = true then _ else _
        rw [Int.zero_add, bitA]
        by_cases hb : v / 2 ^ i % 2 = 1
        · rw [hb] at r ⊢
          exact if_true_of rfl r
        · have hb0 : v / 2 ^ i % 2 = 0 := by omega
          rw [hb0] at r ⊢
          exact if_false_of rfl r
      · refine ⟨_, e1, lim_lt (by rw [lits_len, List.length_map, List.length_range]; omega), same_updN s1 hD, ?_⟩
        rw [upd_same, range_snoc, lits_app]
        rfl
    · rintro H1 ⟨s1, e1⟩
      have e : Sm03.made s.now.graph s.now.terms (.const w v) = (s.now.graph, (List.range w).map fun j => v / 2 ^ j % 2) := by rw [← bitsOf_eq]; rfl
      rw [e] at q
      exact q D H1 (gt.mono s1) (kp_of s1) hD e1

abbrev s_make_not : Stmt := top 71
abbrev N_make_not : List Str := ["state", "numbers"]
theorem sc_make_not : FnScope N_make_not ["state", "numbers"] (defScope s_make_not) := ⟨rfl, rfl, rfl, by decide +kernel, rfl, by decide +kernel, by decide +kernel⟩
theorem ok_make_not (F : Fun K "make_not" "make_not" s_make_not f fd) (D_opposites : DF P w K mg base 2 "opposites" (spOpps)) (T_State : TState K CS) : FnOk P w K mg base CX0 3 f fd ["state", "numbers"] (spMake CS CG 2) := by
  refine F.ok sc_make_not (fun vs H Q E h => ?_) (fun cdv A outer s H vs Q E hr h => ?_)
  · obtain ⟨_, _, _, _, _, rfl, _⟩ := h
    rfl
  · obtain ⟨A, s, nn, nums, t, rfl, hS, hn, hnn, ht, hw, q⟩ := h
    obtain ⟨a, rfl, rfl⟩ := tm2 ht
    obtain ⟨ha, _⟩ := wr_one (by rw [hw]; decide)
    obtain ⟨dx, h1⟩ := hS.ins
    obtain ⟨rs, r, h2, h3, h4⟩ := hS.word ha
    have hu := hu_of hr
    refine ⟨_, (pss_one (ps_ret (pe_df D_opposites hr (pa_cons (pe_ix ix_list (pe_fld (pv 0) rfl) (pe_ix ix_list (pv 1) pe_int (fun _ _ => rfl)) (fun _ _ => rfl)) pa_nil)))), ?_⟩
    have hL : (8 : Nat) ≤ LIM := by decide
    refine ⟨_, rfl, A.sa, CS, dx, _, _, rfl, h1, T_State.cl, T_State.nT, sF_terms A, _, rfl, nn, _, _, _, rfl, rfl, .inl (.inl hn), at0 _ _, A.pt, _, _, _, rfl, rfl, .inl (.inl h2), atI_nat h3, ?_⟩
    exact ⟨r, _, rfl, h4.1, Nat.le_trans (hS.wf.width ha).2 hL, fun p H1 s1 hp e1 => q p H1 (hS.gat.mono s1) (kp_of s1) hp e1⟩

abbrev s_make_neg : Stmt := top 72
abbrev N_make_neg : List Str := ["state", "numbers"]
theorem sc_make_neg : FnScope N_make_neg ["state", "numbers"] (defScope s_make_neg) := ⟨rfl, rfl, rfl, by decide +kernel, rfl, by decide +kernel, by decide +kernel⟩
theorem ok_make_neg (F : Fun K "make_neg" "make_neg" s_make_neg f fd) (D_word_neg : DF P w K mg base 7 "word_neg" (spW1 CG 8 4000 fNeg)) (T_State : TState K CS) : FnOk P w K mg base CX0 8 f fd ["state", "numbers"] (spMake CS CG 3) := by
  refine F.ok sc_make_neg (fun vs H Q E h => ?_) (fun cdv A outer s H vs Q E hr h => ?_)
  · obtain ⟨_, _, _, _, _, rfl, _⟩ := h
    rfl
  · obtain ⟨A, s, nn, nums, t, rfl, hS, hn, hnn, ht, hw, q⟩ := h
    obtain ⟨a, rfl, rfl⟩ := tm3 ht
    obtain ⟨ha, _⟩ := wr_neg (by rw [hw]; decide)
    obtain ⟨dx, h1⟩ := hS.ins
    obtain ⟨rs, r, h2, h3, h4⟩ := hS.word ha
    have hu := hu_of hr
    refine ⟨_, (pss_one (ps_ret (pe_df D_word_neg hr (pa_cons (pe_fld (pv 0) rfl) (pa_cons (pe_ix ix_list (pe_fld (pv 0) rfl) (pe_ix ix_list (pv 1) pe_int (fun _ _ => rfl)) (fun _ _ => rfl)) pa_nil))))), ?_⟩
    refine ⟨_, rfl, A.sa, CS, dx, _, _, rfl, h1, T_State.cl, T_State.nG, sF_gates A, _, rfl, A.sa, CS, dx, _, _, rfl, h1, T_State.cl, T_State.nT, sF_terms A, _, rfl, nn, _, _, _, rfl, rfl, .inl (.inl hn), at0 _ _, A.pt, _, _, _, rfl, rfl, .inl (.inl h2), atI_nat h3, ?_⟩
    exact ⟨A.ga, A.n, A.k, r, _, _, rfl, hS.gat, h4, (hS.wf.width ha).1, (hS.wf.width ha).2, lim4000 hS.wf, q⟩

abbrev s_make_two : Stmt := top 73
abbrev N_make_two : List Str := ["state", "numbers"]
theorem sc_make_two : FnScope N_make_two ["state", "numbers"] (defScope s_make_two) := ⟨rfl, rfl, rfl, by decide +kernel, rfl, by decide +kernel, by decide +kernel⟩
theorem ok_make_two (F : Fun K "make_two" "make_two" s_make_two f fd) (D_word_two : DF P w K mg base 9 "word_two" (spTwo CG)) (T_State : TState K CS) : FnOk P w K mg base CX0 10 f fd ["state", "numbers"] (spMake CS CG 4) := by
  refine F.ok sc_make_two (fun vs H Q E h => ?_) (fun cdv A outer s H vs Q E hr h => ?_)
  · obtain ⟨_, _, _, _, _, rfl, _⟩ := h
    rfl
  · obtain ⟨A, s, nn, nums, t, rfl, hS, hn, hnn, ht, hw, q⟩ := h
    obtain ⟨o, a, b, x, rfl, ho, rfl⟩ := tm4 ht
    obtain ⟨ha, hb, hww⟩ := wr_two (by rw [hw]; decide)
    obtain ⟨dx, h1⟩ := hS.ins
    obtain ⟨rs, r, h2, h3, h4⟩ := hS.word ha
    obtain ⟨rs2, r2, h22, h32, h42⟩ := hS.word hb
    have hu := hu_of hr
    refine ⟨_, (pss_one (ps_ret (pe_df D_word_two hr (pa_cons (pe_fld (pv 0) rfl) (pa_cons (pe_ix ix_list (pv 1) pe_int (fun _ _ => rfl)) (pa_cons (pe_ix ix_list (pe_fld (pv 0) rfl) (pe_ix ix_list (pv 1) pe_int (fun _ _ => rfl)) (fun _ _ => rfl)) (pa_cons (pe_ix ix_list (pe_fld (pv 0) rfl) (pe_ix ix_list (pv 1) pe_int (fun _ _ => rfl)) (fun _ _ => rfl)) pa_nil))))))), ?_⟩
    have el : (Sm03.wordOf s.now.terms a).length = (Sm03.wordOf s.now.terms b).length := Decidable.byContradiction fun z => by
      have := hww.mpr z
      omega
    refine ⟨_, rfl, A.sa, CS, dx, _, _, rfl, h1, T_State.cl, T_State.nG, sF_gates A, _, rfl, nn, _, _, _, rfl, rfl, .inl (.inl hn), at0 _ _, ?_⟩
    refine ⟨_, rfl, A.sa, CS, dx, _, _, rfl, h1, T_State.cl, T_State.nT, sF_terms A, _, rfl, nn, _, _, _, rfl, rfl, .inl (.inl hn), at1 _ _ _, A.pt, _, _, _, rfl, rfl, .inl (.inl h2), atI_nat h3, ?_⟩
    refine ⟨_, rfl, A.sa, CS, dx, _, _, rfl, h1, T_State.cl, T_State.nT, sF_terms A, _, rfl, nn, _, _, _, rfl, rfl, .inl (.inl hn), at2 _ _ _ _, A.pt, _, _, _, rfl, rfl, .inl (.inl h22), atI_nat h32, ?_⟩
    exact ⟨A.ga, A.n, A.k, r, r2, _, o, x, _, _, rfl, ho, hS.gat, h4, h42, el, (hS.wf.width ha).1, (hS.wf.width ha).2, lim4000 hS.wf, q⟩

abbrev s_make_join : Stmt := top 74
abbrev N_make_join : List Str := ["state", "numbers"]
theorem sc_make_join : FnScope N_make_join ["state", "numbers"] (defScope s_make_join) := ⟨rfl, rfl, rfl, by decide +kernel, rfl, by decide +kernel, by decide +kernel⟩
theorem ok_make_join (F : Fun K "make_join" "make_join" s_make_join f fd) (T_State : TState K CS) : FnOk P w K mg base CX0 1 f fd ["state", "numbers"] (spMake CS CG 5) := by
  refine F.ok sc_make_join (fun vs H Q E h => ?_) (fun cdv A outer s H vs Q E hr h => ?_)
  · obtain ⟨_, _, _, _, _, rfl, _⟩ := h
    rfl
  · obtain ⟨A, s, nn, nums, t, rfl, hS, hn, hnn, ht, hw, q⟩ := h
    obtain ⟨a, b, rfl, rfl⟩ := tm5 ht
    obtain ⟨ha, hb, hww⟩ := wr_join (by rw [hw]; decide)
    obtain ⟨dx, h1⟩ := hS.ins
    obtain ⟨rs, r, h2, h3, h4⟩ := hS.word ha
    obtain ⟨rs2, r2, h22, h32, h42⟩ := hS.word hb
    have hu := hu_of hr
    refine ⟨_, (pss_one (ps_ret (pe_op op_cat (pe_ix ix_list (pe_fld (pv 0) rfl) (pe_ix ix_list (pv 1) pe_int (fun _ _ => rfl)) (fun _ _ => rfl)) (pe_ix ix_list (pe_fld (pv 0) rfl) (pe_ix ix_list (pv 1) pe_int (fun _ _ => rfl)) (fun _ _ => rfl))))), ?_⟩
    have hL : (16 : Nat) ≤ LIM := by decide
    have wa := (hS.wf.width ha).2
    have wb := (hS.wf.width hb).2
    refine ⟨_, rfl, A.sa, CS, dx, _, _, rfl, h1, T_State.cl, T_State.nT, sF_terms A, _, rfl, nn, _, _, _, rfl, rfl, .inl (.inl hn), at1 _ _ _, A.pt, _, _, _, rfl, rfl, .inl (.inl h22), atI_nat h32, ?_⟩
    refine ⟨_, rfl, A.sa, CS, dx, _, _, rfl, h1, T_State.cl, T_State.nT, sF_terms A, _, rfl, nn, _, _, _, rfl, rfl, .inl (.inl hn), at0 _ _, A.pt, _, _, _, rfl, rfl, .inl (.inl h2), atI_nat h3, ?_⟩
    refine ⟨r2, r, _, _, rfl, rfl, h42.1, h4.1, ?_, fun p hp => ?_⟩
    · rw [lits_len, lits_len]
      exact Nat.le_of_lt (lim_lt (by omega))
    · rw [← lits_app]
      exact newG_same q hS.gat (Same.refl H) hp

abbrev s_make_cut : Stmt := top 75
abbrev N_make_cut : List Str := ["state", "numbers"]
theorem sc_make_cut : FnScope N_make_cut ["state", "numbers"] (defScope s_make_cut) := ⟨rfl, rfl, rfl, by decide +kernel, rfl, by decide +kernel, by decide +kernel⟩
theorem ok_make_cut (F : Fun K "make_cut" "make_cut" s_make_cut f fd) (T_State : TState K CS) : FnOk P w K mg base CX0 1 f fd ["state", "numbers"] (spMake CS CG 6) := by
  refine F.ok sc_make_cut (fun vs H Q E h => ?_) (fun cdv A outer s H vs Q E hr h => ?_)
  · obtain ⟨_, _, _, _, _, rfl, _⟩ := h
    rfl
  · obtain ⟨A, s, nn, nums, t, rfl, hS, hn, hnn, ht, hw, q⟩ := h
    obtain ⟨a, lo, n, rfl, rfl⟩ := tm6 ht
    obtain ⟨ha, hww⟩ := wr_cut (by rw [hw]; decide)
    obtain ⟨dx, h1⟩ := hS.ins
    obtain ⟨rs, r, h2, h3, h4⟩ := hS.word ha
    have hu := hu_of hr
    refine ⟨_, (pss_one (ps_ret (pe_slice sl_list (pe_ix ix_list (pe_fld (pv 0) rfl) (pe_ix ix_list (pv 1) pe_int (fun _ _ => rfl)) (fun _ _ => rfl)) (po_some (pe_ix ix_list (pv 1) pe_int (fun _ _ => rfl))) (po_some (pe_op op_add (pe_ix ix_list (pv 1) pe_int (fun _ _ => rfl)) (pe_ix ix_list (pv 1) pe_int (fun _ _ => rfl))))))), ?_⟩
    refine ⟨_, rfl, A.sa, CS, dx, _, _, rfl, h1, T_State.cl, T_State.nT, sF_terms A, _, rfl, nn, _, _, _, rfl, rfl, .inl (.inl hn), at0 _ _, A.pt, _, _, _, rfl, rfl, .inl (.inl h2), atI_nat h3, ?_⟩
    refine ⟨_, rfl, nn, _, _, _, rfl, rfl, .inl (.inl hn), at1 _ _ _, _, rfl, ?_⟩
    refine ⟨_, rfl, nn, _, _, _, rfl, rfl, .inl (.inl hn), at1 _ _ _, _, rfl, nn, _, _, _, rfl, rfl, .inl (.inl hn), at2 _ _ _ _, _, _, rfl, rfl, _, rfl, r, _, rfl, .inl (.inl h4.1), fun p hp => ?_⟩
    rw [cut_mid]
    exact newG_same q hS.gat (Same.refl H) hp

abbrev s_make_zext : Stmt := top 76
abbrev N_make_zext : List Str := ["state", "numbers", "word"]
theorem sc_make_zext : FnScope N_make_zext ["state", "numbers"] (defScope s_make_zext) := ⟨rfl, rfl, rfl, by decide +kernel, rfl, by decide +kernel, by decide +kernel⟩
theorem ok_make_zext (F : Fun K "make_zext" "make_zext" s_make_zext f fd) (T_State : TState K CS) (D_zeros : DF P w K mg base 1 "zeros" (spZeros)) (b_len : mg "len" = none) : FnOk P w K mg base CX0 2 f fd ["state", "numbers"] (spMake CS CG 7) := by
  refine F.ok sc_make_zext (fun vs H Q E h => ?_) (fun cdv A outer s H vs Q E hr h => ?_)
  · obtain ⟨_, _, _, _, _, rfl, _⟩ := h
    rfl
  · obtain ⟨A, s, nn, nums, t, rfl, hS, hn, hnn, ht, hw, q⟩ := h
    obtain ⟨a, w, rfl, rfl⟩ := tm7 ht
    obtain ⟨ha, hww⟩ := wr_wide (by rw [hw]; decide)
    obtain ⟨dx, h1⟩ := hS.ins
    obtain ⟨rs, r, h2, h3, h4⟩ := hS.word ha
    have hu := hu_of hr
    refine ⟨_, (pss_cons (ps_set (i := 2) sc_make_zext.nd rfl (Or.inl rfl) (pe_ix ix_list (pe_fld (pv 0) rfl) (pe_ix ix_list (pv 1) pe_int (fun _ _ => rfl)) (fun _ _ => rfl)))
      (pss_one (ps_ret (pe_op op_cat (pv 2) (pe_df D_zeros hr (pa_cons (pe_op op_sub (pe_ix ix_list (pv 1) pe_int (fun _ _ => rfl)) (pe_callB call_len_seq (by rfl) b_len PySem.boot_len (pa_cons (pv 2) pa_nil))) pa_nil)))))), ?_⟩
    have hL : (16 : Nat) ≤ LIM := by decide
    have wa := (hS.wf.width ha).2
    have hwd : ¬ (w < Sm03.widthOf s.now.terms a ∨ 8 < w) := fun z => by
      have := hww.mpr z
      omega
    have hwd' : Sm03.widthOf s.now.terms a = (Sm03.wordOf s.now.terms a).length := rfl
    refine ⟨_, rfl, A.sa, CS, dx, _, _, rfl, h1, T_State.cl, T_State.nT, sF_terms A, _, rfl, nn, _, _, _, rfl, rfl, .inl (.inl hn), at0 _ _, A.pt, _, _, _, rfl, rfl, .inl (.inl h2), atI_nat h3, ?_⟩
    refine ⟨_, rfl, _, rfl, nn, _, _, _, rfl, rfl, .inl (.inl hn), at1 _ _ _, _, rfl, r, _, rfl, .inl (.inl (.inl h4.1)), _, _, rfl, rfl, ?_⟩
    refine ⟨w - (Sm03.wordOf s.now.terms a).length, ?_, by omega, fun p H1 s1 hp e1 => ?_⟩
    · show [V.int ((w : Int) - (((lits (Sm03.wordOf s.now.terms a)).length : Nat) : Int))] = _
      rw [lits_len, show (w : Int) - (((Sm03.wordOf s.now.terms a).length : Nat) : Int) = ((w - (Sm03.wordOf s.now.terms a).length : Nat) : Int) by omega]
    refine ⟨r, p, _, _, rfl, rfl, s1 _ _ h4.1, e1, ?_, fun p2 hp2 => ?_⟩
    · rw [lits_len, lits_len, List.length_replicate]
      exact Nat.le_of_lt (lim_lt (by omega))
    · rw [← lits_app]
      exact newG_same q hS.gat s1 hp2

abbrev s_make_sext : Stmt := top 77
abbrev N_make_sext : List Str := ["state", "numbers", "word"]
theorem sc_make_sext : FnScope N_make_sext ["state", "numbers"] (defScope s_make_sext) := ⟨rfl, rfl, rfl, by decide +kernel, rfl, by decide +kernel, by decide +kernel⟩
theorem ok_make_sext (F : Fun K "make_sext" "make_sext" s_make_sext f fd) (T_State : TState K CS) (b_len : mg "len" = none) : FnOk P w K mg base CX0 1 f fd ["state", "numbers"] (spMake CS CG 8) := by
  refine F.ok sc_make_sext (fun vs H Q E h => ?_) (fun cdv A outer s H vs Q E hr h => ?_)
  · obtain ⟨_, _, _, _, _, rfl, _⟩ := h
    rfl
  · obtain ⟨A, s, nn, nums, t, rfl, hS, hn, hnn, ht, hw, q⟩ := h
    obtain ⟨a, w, rfl, rfl⟩ := tm8 ht
    obtain ⟨ha, hww⟩ := wr_wide (by rw [hw]; decide)
    obtain ⟨dx, h1⟩ := hS.ins
    obtain ⟨rs, r, h2, h3, h4⟩ := hS.word ha
    have hu := hu_of hr
    refine ⟨_, (pss_cons (ps_set (i := 2) sc_make_sext.nd rfl (Or.inl rfl) (pe_ix ix_list (pe_fld (pv 0) rfl) (pe_ix ix_list (pv 1) pe_int (fun _ _ => rfl)) (fun _ _ => rfl)))
      (pss_one (ps_ret (pe_op op_cat (pv 2) (pe_op op_rep (pe_lst (pa_cons (pe_ix ix_list (pv 2) (pe_un un_neg pe_int) (fun _ _ => rfl)) pa_nil)) (pe_op op_sub (pe_ix ix_list (pv 1) pe_int (fun _ _ => rfl)) (pe_callB call_len_seq (by rfl) b_len PySem.boot_len (pa_cons (pv 2) pa_nil)))))))), ?_⟩
    have hL : (16 : Nat) ≤ LIM := by decide
    have wa := (hS.wf.width ha).2
    have wa1 := (hS.wf.width ha).1
    have hwd : ¬ (w < Sm03.widthOf s.now.terms a ∨ 8 < w) := fun z => by
      have := hww.mpr z
      omega
    have hwd' : Sm03.widthOf s.now.terms a = (Sm03.wordOf s.now.terms a).length := rfl
    refine ⟨_, rfl, A.sa, CS, dx, _, _, rfl, h1, T_State.cl, T_State.nT, sF_terms A, _, rfl, nn, _, _, _, rfl, rfl, .inl (.inl hn), at0 _ _, A.pt, _, _, _, rfl, rfl, .inl (.inl h2), atI_nat h3, ?_⟩
    refine ⟨_, rfl, _, rfl, 1, rfl, r, _, _, _, rfl, rfl, .inl (.inl h4.1), at_last _ wa1, (by show 1 ≤ sizeLine; decide), fun l hl => ?_⟩
    have s0 := same_upd (o := .lst [.int ((Sm03.last (Sm03.wordOf s.now.terms a) : Nat) : Int)]) hl
    refine ⟨_, rfl, nn, _, _, _, rfl, rfl, .inl (.inl (s0 _ _ hn)), at1 _ _ _, _, rfl, r, _, rfl, .inl (.inl (.inl (s0 _ _ h4.1))), _, _, rfl, rfl, ?_⟩
    have e5 : (w : Int) - (((lits (Sm03.wordOf s.now.terms a)).length : Nat) : Int) = ((w - (Sm03.wordOf s.now.terms a).length : Nat) : Int) := by rw [lits_len]; omega
    refine ⟨l, ((w - (Sm03.wordOf s.now.terms a).length : Nat) : Int), _, rfl, congrArg V.int e5, upd_same, by omega, by omega, ?_, fun p hp => ?_⟩
    · show 1 * (((w - (Sm03.wordOf s.now.terms a).length : Nat) : Int)).toNat ≤ sizeLine
      rw [Nat.one_mul, Int.toNat_natCast]
      exact Nat.le_of_lt (lim_lt (by omega))
    rw [Int.toNat_natCast, flat_rep, show List.replicate (w - (Sm03.wordOf s.now.terms a).length) (V.int ((Sm03.last (Sm03.wordOf s.now.terms a) : Nat) : Int)) = lits (List.replicate (w - (Sm03.wordOf s.now.terms a).length) (Sm03.last (Sm03.wordOf s.now.terms a))) by unfold lits; rw [List.map_replicate]]
    have s1 := s0.trans (same_upd (o := .lst (lits (List.replicate (w - (Sm03.wordOf s.now.terms a).length) (Sm03.last (Sm03.wordOf s.now.terms a))))) hp)
    refine ⟨r, p, _, _, rfl, rfl, s1 _ _ h4.1, upd_same, ?_, fun p2 hp2 => ?_⟩
    · rw [lits_len, lits_len, List.length_replicate]
      exact Nat.le_of_lt (lim_lt (by omega))
    · rw [← lits_app]
      exact newG_same q hS.gat s1 hp2

abbrev s_make_pick : Stmt := top 78
abbrev N_make_pick : List Str := ["state", "numbers", "c"]
theorem sc_make_pick : FnScope N_make_pick ["state", "numbers"] (defScope s_make_pick) := ⟨rfl, rfl, rfl, by decide +kernel, rfl, by decide +kernel, by decide +kernel⟩
theorem ok_make_pick (F : Fun K "make_pick" "make_pick" s_make_pick f fd) (T_State : TState K CS) (D_chosen_word : DF P w K mg base 5 "chosen_word" (spChW CG)) : FnOk P w K mg base CX0 6 f fd ["state", "numbers"] (spMake CS CG 9) := by
  refine F.ok sc_make_pick (fun vs H Q E h => ?_) (fun cdv A outer s H vs Q E hr h => ?_)
  · obtain ⟨_, _, _, _, _, rfl, _⟩ := h
    rfl
  · obtain ⟨A, s, nn, nums, t, rfl, hS, hn, hnn, ht, hw, q⟩ := h
    obtain ⟨c, a, b, rfl, rfl⟩ := tm9 ht
    obtain ⟨hc, ha, hb, hww⟩ := wr_pick (by rw [hw]; decide)
    obtain ⟨dx, h1⟩ := hS.ins
    obtain ⟨rs0, r0, h20, h30, h40⟩ := hS.word hc
    obtain ⟨rs, r, h2, h3, h4⟩ := hS.word ha
    obtain ⟨rs2, r2, h22, h32, h42⟩ := hS.word hb
    have hu := hu_of hr
    refine ⟨_, (pss_cons (ps_set (i := 2) sc_make_pick.nd rfl (Or.inl rfl) (pe_ix ix_list (pe_ix ix_list (pe_fld (pv 0) rfl) (pe_ix ix_list (pv 1) pe_int (fun _ _ => rfl)) (fun _ _ => rfl)) pe_int (fun _ _ => rfl)))
      (pss_one (ps_ret (pe_df D_chosen_word hr (pa_cons (pe_fld (pv 0) rfl) (pa_cons (pv 2) (pa_cons (pe_ix ix_list (pe_fld (pv 0) rfl) (pe_ix ix_list (pv 1) pe_int (fun _ _ => rfl)) (fun _ _ => rfl)) (pa_cons (pe_ix ix_list (pe_fld (pv 0) rfl) (pe_ix ix_list (pv 1) pe_int (fun _ _ => rfl)) (fun _ _ => rfl)) pa_nil)))))))), ?_⟩
    have ww : Sm03.widthOf s.now.terms c = 1 ∧ Sm03.widthOf s.now.terms a = Sm03.widthOf s.now.terms b := Decidable.byContradiction fun z => by
      have := hww.mpr (by
        by_cases h1 : Sm03.widthOf s.now.terms c = 1
        · exact .inr fun h2 => z ⟨h1, h2⟩
        · exact .inl h1)
      omega
    obtain ⟨x, hx⟩ : ∃ x, Sm03.wordOf s.now.terms c = [x] := List.length_eq_one_iff.mp ww.1
    have wa := (hS.wf.width ha).2
    have q' : NewG CG A.ga A.n A.k H Q (Sm03.muxes x s.now.graph (Sm03.wordOf s.now.terms a) (Sm03.wordOf s.now.terms b)) := by
      have e : Sm03.made s.now.graph s.now.terms (.pick c a b) = Sm03.muxes x s.now.graph (Sm03.wordOf s.now.terms a) (Sm03.wordOf s.now.terms b) := by
        show Sm03.muxes (Sm03.last (Sm03.wordOf s.now.terms c)) _ _ _ = _
        rw [hx]
        rfl
      rw [e] at q
      exact q
    rw [hx] at h40
    refine ⟨_, rfl, A.sa, CS, dx, _, _, rfl, h1, T_State.cl, T_State.nT, sF_terms A, _, rfl, nn, _, _, _, rfl, rfl, .inl (.inl hn), at0 _ _, A.pt, _, _, _, rfl, rfl, .inl (.inl h20), atI_nat h30, r0, _, _, _, rfl, rfl, .inl (.inl h40.1), at0 _ _, ?_⟩
    refine ⟨_, rfl, A.sa, CS, dx, _, _, rfl, h1, T_State.cl, T_State.nG, sF_gates A, _, rfl, ?_⟩
    refine ⟨_, rfl, A.sa, CS, dx, _, _, rfl, h1, T_State.cl, T_State.nT, sF_terms A, _, rfl, nn, _, _, _, rfl, rfl, .inl (.inl hn), at1 _ _ _, A.pt, _, _, _, rfl, rfl, .inl (.inl h2), atI_nat h3, ?_⟩
    refine ⟨_, rfl, A.sa, CS, dx, _, _, rfl, h1, T_State.cl, T_State.nT, sF_terms A, _, rfl, nn, _, _, _, rfl, rfl, .inl (.inl hn), at2 _ _ _ _, A.pt, _, _, _, rfl, rfl, .inl (.inl h22), atI_nat h32, ?_⟩
    exact ⟨A.ga, A.n, A.k, r, r2, _, x, _, _, rfl, hS.gat, h4, h42, ww.2, by omega, by have := lim4000 hS.wf; omega, q'⟩
end
end BC

set_option Elab.async false
set_option linter.all false
set_option maxRecDepth 100000
set_option maxHeartbeats 2000000
/-! a dict whose keys are tuples: an entry that is there, taken out -/
namespace BP
open PySem PySem.W PySem.Calls PyProof.Rows PyProof.V PySem.Spec
section
variable {K : Type} [DecidableEq K] {prog : Program} {w : World} {knd : HeapKind prog w K}
theorem pop_there {d b : Addr} {k : K} : MeetsIn prog w (Builtin.«dict.pop» ⟨[.ref d, .ref b], []⟩) (fun A R s => ∃ xs, ∃ p : Addr × Value, knd.room A.in1 ∧ knd.is s.heap k b ∧ s.heap.DictOfH knd d xs ∧ xs.length ≤ sizeLine ∧ atKey xs k = some p ∧
      ∀ h' tk, h'.DictOfH knd d (DT.dropH xs k) → Heap.SameBut d s.heap h' → R (.ok (.ret p.2)) { s with heap := h', toks := tk }) := by
  refine .of_wp fun A R s hyp => ?_
  obtain ⟨xs, p, room, kis, dof, few, there, goal⟩ := hyp
  obtain ⟨o, es, ep, ho, hc, hdat, he, his, hn⟩ := id dof
  have sz : es.size = xs.length := size_of_entries he
  unfold Builtin.«dict.pop»
  refine wpAny_bind ?_
  unfold Builtin.Dict.keyAndDefault
  refine wpAny_bind (wpAny_notOrdered_dict dof.typeIs ?_)
  show wpAny _ _ (pure (d, Value.ref b, none)) _ _ s
  refine wpAny_pure ?_
  have part : (keyPart (Value.ref b)).isSome = false := rfl
  simp only [part, Bool.false_eq_true, if_false]
  refine wpAny_bind (wpAny_dictEntries ho hdat (wpAny_bind (wpAny_pure ?_)))
  have some_in : es.isEmpty = false := by
    cases em : es.isEmpty with
    | false => rfl
    | true =>
      have z0 : es.size = 0 := by simpa using em
      have x0 : xs = [] := List.length_eq_zero_iff.mp (sz.symm.trans z0)
      rw [x0] at there
      cases there
  rw [some_in]
  simp only [Bool.false_eq_true, if_false]
  refine wpAny_bind (DT.takeH room kis dof few (fun no => ?_) fun q e hq hv h' d' same' => ?_)
  · rw [no] at there
    cases there
  · simp only [Option.isNone_some, Bool.false_eq_true, if_false]
    have pq : q = p := Option.some.inj (hq.symm.trans there)
    subst pq
    exact wpAny_bind (wpAny_letGo (wpAny_pure ⟨e.val, rfl, by rw [hv]; exact goal h' _ d' same'⟩))
end
end BP
namespace BC
open PySem PySem.Spec PyProof.Rows L2
def rPop1 : V → List V → Hp → VK → Prop := fun x xs H Q => ∃ (a : Addr) (kvs : List (List Key × V)) (k : List Key) (b : Addr) (v : V), x = .ref a ∧ xs = [.ref b] ∧ H a = some (.dT kvs) ∧ H b = some (.tup (k.map kV)) ∧ valV kvs k = some v ∧ Q v (upd H a (.dT (dropK kvs k)))
theorem mt_pop1 {X : Cx} (hu : X.A.units + 1 < cLine) : MtR X "dict.pop" rPop1 := by
  intro pins s σ H x xs v us Q I rx rxs h
  obtain ⟨a, kvs, k, b, v0, rfl, rfl, ha, hb, hv, q⟩ := h
  cases rx
  cases rxs with
  | cons r1 r2 =>
    cases r2
    cases r1
    obtain ⟨z, hd, xs', rel, dd⟩ := dt_of I.hok ha
    have few : xs'.length ≤ sizeLine := Nat.le_trans (Nat.le_of_eq (Paired.length rel).symm) z
    have r := rel.val k
    rw [hv] at r
    cases hp : atKey xs' k with
    | none =>
      rw [hp] at r
      exact (show False from r).elim
    | some p =>
      rw [hp] at r
      have rv : RelV v0 p.2 := r
      refine call_meetsIn PySem.F.slot_dict_pop dd.typeIs PySem.F.entry_dict_pop (PySem.F.args_dict_pop_2 _ _) (BP.pop_there (knd := tupleKind (mixKind X.prog X.w)) (k := k))
        ⟨xs', p, tupleKind_room_in1 hu, key_of I.hok hb, dd, few, hp, fun h' tk dd' hs => ?_⟩
      obtain ⟨o, es, ep, hq, h2, h3, h4, _, h5⟩ := dd'
      have I2 : Inv X pins σ (upd H a (.dT (dropK kvs k))) { s with heap := h', toks := tk } :=
        d_write I (by rw [ha]; exact True.intro) hs ⟨o, hq⟩ ⟨Nat.le_trans (dropK_le kvs k) z, hd, _, (DX.KT_drop k rel).keeps (fun c ys ec => (by rw [upd_ne (ne_of ec ha (fun z => nomatch z))]; exact ec)), o, es, ep, hq, h2, h3, h4, h5⟩
      exact ⟨v0, _, I2, rv, q⟩
theorem Nds.unsnoc {H : Hp} {x : Sm03.Node} : ∀ {g : Graph} {vs : List V}, Nds H vs (g ++ [x]) → ∃ us y, vs = us ++ [y] ∧ Nds H us g ∧ ((x = .bit ∧ y = .non) ∨ ∃ (p : Addr) (a b : Nat), x = .gate a b ∧ y = .ref p ∧ H p = some (.tup [.int a, .int b]))
  | [], vs, h => by
    cases h with
    | bit t => cases t; exact ⟨[], _, rfl, .nil, .inl ⟨rfl, rfl⟩⟩
    | gate e t => cases t; exact ⟨[], _, rfl, .nil, .inr ⟨_, _, _, rfl, rfl, e⟩⟩
  | z :: g, vs, h => by
    cases h with
    | bit t =>
      obtain ⟨us, y, rfl, n, r⟩ := Nds.unsnoc (g := g) t
      exact ⟨_ :: us, y, rfl, .bit n, r⟩
    | gate e t =>
      obtain ⟨us, y, rfl, n, r⟩ := Nds.unsnoc (g := g) t
      exact ⟨_ :: us, y, rfl, .gate e n, r⟩
theorem uniq_last {g : Graph} {a b : Nat} (u : Uniq (g ++ [.gate a b])) : valV (knV 0 g) (kk a b) = none := by
  rw [kn_find]
  cases e : g.findIdx? (fun n => n == Sm03.Node.gate a b) with
  | none => rfl
  | some i =>
    obtain ⟨hi, hp, _⟩ := List.findIdx?_eq_some_iff_getElem.mp e
    have h := (List.pairwise_append.mp u).2.2 g[i] (List.getElem_mem hi) (.gate a b) (List.mem_singleton.mpr rfl) (eq_of_beq hp)
    rw [eq_of_beq hp] at h
    cases h
theorem drop_last {g : Graph} {a b : Nat} (u : Uniq (g ++ [.gate a b])) : dropK (knV 0 (g ++ [.gate a b])) (kk a b) = knV 0 g ∧ valV (knV 0 (g ++ [.gate a b])) (kk a b) = some (.int ((2 * (g.length + 1) : Nat) : Int)) := by
  have h := uniq_last u
  have e : knV 0 (g ++ [.gate a b]) = knV 0 g ++ [(kk a b, .int ((2 * (g.length + 1) : Nat) : Int))] := by
    rw [kn_app]
    show _ = knV 0 g ++ [(kk a b, V.int ((2 * (g.length + 1) : Nat) : Int))]
    rw [show 0 + g.length = g.length by omega]
    rfl
  rw [e]
  constructor
  · have d : dropK (knV 0 g) (kk a b) = knV 0 g := dropK_no (valV_not h)
    unfold dropK at d ⊢
    rw [List.filter_append, d, List.filter_cons_of_neg (by simp), List.filter_nil, List.append_nil]
  · rw [valV_snoc _ _ _ _ h, if_pos rfl]
def spShrink (CG : Addr) : Sp := fun vs H Q _ => ∃ (ga n k : Addr) (g : Graph) (m : Nat), vs = [.ref ga, .int m] ∧ GAt CG ga n k H g ∧ m ≤ g.length ∧ ∀ H', GAt CG ga n k H' (g.take m) → Kp n k H H' → Q .non H'
theorem take_snoc {α : Type} {l : List α} {j : Nat} (h : j < l.length) : l.take (j + 1) = l.take j ++ [l[j]] := by
  rw [List.take_add_one, List.getElem?_eq_getElem h]
  rfl
end BC

set_option Elab.async false
set_option linter.all false
set_option maxRecDepth 100000
set_option maxHeartbeats 2000000
namespace BC
open PySem PySem.Spec PyProof.Rows L2
section
variable {P : Program} {w : World} {K : PySem.W.Frag} {mg : Str → Option Value} {base : Heap} {CG CS CW : Addr} {f : Addr} {fd : FuncData}
abbrev s_Gates_shrink : Stmt := inClass (top 25) 4
abbrev N_Gates_shrink : List Str := ["self", "size", "pair"]
theorem sc_Gates_shrink : FnScope N_Gates_shrink ["self", "size"] (defScope s_Gates_shrink) := ⟨rfl, rfl, rfl, by decide +kernel, rfl, by decide +kernel, by decide +kernel⟩
theorem ok_Gates_shrink (F : Fun K "shrink" "Gates.shrink" s_Gates_shrink f fd) (b_len : mg "len" = none) (T_Gates : TGates K CG) : FnOk P w K mg base CX0 1 f fd ["self", "size"] (spShrink CG) := by
  refine F.ok sc_Gates_shrink (fun vs H Q E h => ?_) (fun cdv A outer s H vs Q E hr h => ?_)
  · obtain ⟨_, _, _, _, _, rfl, _⟩ := h
    rfl
  · obtain ⟨ga, n, k, g, m, rfl, hG, hm, q⟩ := h
    have hu := hu_of hr
    refine ⟨_, (pss_one (ps_while PassesOwn.never (pt_cmpR op_gt (pe_callB call_len_seq (by rfl) b_len PySem.boot_len (pa_cons (pe_fld (pv 0) rfl) pa_nil)) (pv 1) (nomark _))
      (pss_cons (ps_set (i := 2) sc_Gates_shrink.nd rfl (Or.inl rfl) (pe_bm0 PySem.F.plainAttrs_list PySem.F.slot_list_pop PySem.F.type_list_pop mt_pop (pe_fld (pv 0) rfl)))
      (pss_one (ps_if (pt_cmpR op_notN (pv 2) pe_non (nomark _))
      (pss_one (ps_expr (pe_bm PySem.F.plainAttrs_dict PySem.F.slot_dict_pop PySem.F.type_dict_pop (mt_pop1 hu) (pe_fld (pv 0) rfl) (pa_cons (pv 2) pa_nil))))
      pss_nil))))), ?_⟩
    refine ⟨fun i σ H1 => ∃ v2, σ = [some (.ref ga), some (.int ((m : Nat) : Int)), v2] ∧ m + i ≤ g.length ∧ GAt CG ga n k H1 (g.take (m + i)) ∧ Kp n k H H1, ⟨g.length - m, none, rfl, by omega, by rw [List.take_of_length_le (by omega)]; exact hG, Kp.refl⟩, ?_⟩
    rintro i σ H1 ⟨v2, rfl, hi, hG1, k1⟩
    obtain ⟨dx, h1⟩ := hG1.ins
    obtain ⟨vs, h2, h3⟩ := hG1.nodes
    refine ⟨_, rfl, ga, CG, dx, _, _, rfl, h1, T_Gates.cl, T_Gates.nN, gF_nodes n k, n, _, rfl, .inl (.inl (.inl h2)), _, rfl, _, _, rfl, rfl, _, rfl, ?_⟩
    have vl := h3.len
    rw [List.length_take, Nat.min_eq_left hi] at vl
    cases i with
    | zero =>
      refine if_false_of (decide_eq_false (by rw [vl]; omega)) ?_
      exact q H1 hG1 k1
    | succ i =>
      refine if_true_of (decide_eq_true (by rw [vl]; omega)) ?_
      have hlt : m + i < g.length := by omega
      have ts : g.take (m + (i + 1)) = g.take (m + i) ++ [g[m + i]] := take_snoc hlt
      rw [ts] at h3 hG1
      obtain ⟨us, y, rfl, n3, hy⟩ := h3.unsnoc
      refine ⟨fun σ' H' => ∃ v2, σ' = [some (.ref ga), some (.int ((m : Nat) : Int)), v2] ∧ m + i ≤ g.length ∧ GAt CG ga n k H' (g.take (m + i)) ∧ Kp n k H H', fun σ' H' h => ⟨i, Nat.lt_succ_self i, h⟩, ?_⟩
      refine ⟨_, rfl, ga, CG, dx, _, _, rfl, h1, T_Gates.cl, T_Gates.nN, gF_nodes n k, .inl ⟨rfl, _, .inl (.inl h2)⟩, n, _, y, rfl, rfl, h2, by rw [List.length_append]; show (us ++ [y])[us.length]? = _; rw [List.getElem?_append_right (Nat.le_refl _), Nat.sub_self]; rfl, ?_⟩
      rw [List.dropLast_concat]
      have nk := hG1.nk
      have a1 : (upd H1 n (.lst us)) ga = some (.ins CG dx (gF n k)) := by rw [upd_ne hG1.gn]; exact h1
      have a2 : (upd H1 n (.lst us)) k = some (.dT (knV 0 (g.take (m + i) ++ [g[m + i]]))) := by rw [upd_ne nk.symm]; exact hG1.known
      have k2 : Kp n k H (upd H1 n (.lst us)) := fun b o e bn bk => by rw [upd_ne bn]; exact k1 b o e bn bk
      have n4 : Nds (upd H1 n (.lst us)) us (g.take (m + i)) := n3.mono fun p xs e => by rw [upd_ne (ne_of e h2 (by intro z; cases z))]; exact e
      refine ⟨_, rfl, rfl, _, rfl, ?_⟩
      rcases hy with ⟨hx, rfl⟩ | ⟨p, a, b, hx, rfl, hp⟩
      · refine if_false_of rfl ?_
        rw [hx] at a2
        refine ⟨_, rfl, by omega, ⟨⟨dx, a1⟩, ⟨us, upd_same, n4⟩, ?_, hG1.uniq.left⟩, k2⟩
        rw [a2, kn_app]
        show some (HO.dT (knV 0 (g.take (m + i)) ++ [])) = _
        rw [List.append_nil]
      · refine if_true_of rfl ?_
        rw [hx] at a2
        have hu2 := hG1.uniq
        rw [hx] at hu2
        obtain ⟨d1, d2⟩ := drop_last hu2
        have a3 : (upd H1 n (.lst us)) p = some (.tup ((kk a b).map kV)) := by rw [upd_ne (ne_of hp h2 (by intro z; cases z))]; exact hp
        refine ⟨_, rfl, ga, CG, dx, _, _, rfl, a1, T_Gates.cl, T_Gates.nK, gF_known n k, .inr (.inr (.inl ⟨rfl, .inr ⟨_, a2⟩⟩)), _, rfl, k, _, kk a b, p, _, rfl, rfl, a2, a3, d2, ?_⟩
        rw [d1]
        refine ⟨_, rfl, by omega, ⟨⟨dx, ?_⟩, ⟨us, ?_, n4.mono fun p' xs e => ?_⟩, upd_same, hG1.uniq.left⟩, fun b' o e bn bk => ?_⟩
        · rw [upd_ne hG1.gk]; exact a1
        · rw [upd_ne nk]; exact upd_same
        · rw [upd_ne (ne_of e a2 (by intro z; cases z))]; exact e
        · rw [upd_ne bk]; exact k2 b' o e bn bk
end
end BC

set_option Elab.async false
set_option linter.all false
set_option maxRecDepth 100000
set_option maxHeartbeats 2000000
namespace BC
open PySem PySem.Spec PyProof.Rows L2
/-! ### refusals: pure -/
def plc : Nat → List Nat
  | 2 => [0]
  | 3 => [0]
  | 4 => [1, 2]
  | 5 => [0, 1]
  | 6 => [0]
  | 7 => [0]
  | 8 => [0]
  | 9 => [0, 1, 2]
  | _ => []
def refusal (es : List Entry) (t : Sm03.Term) : Int := if Sm03.wrong es t < 0 then Sm03.wrong es t else if 30 ≤ es.length then -5 else if 10 < Sm03.total (Sm03.inputs (es ++ [⟨t, []⟩])) then -4 else 0
theorem tm_lt {c : Nat} {nums : List Nat} {t : Sm03.Term} (h : tmOf c nums = some t) : c < 10 := by
  match c, h with
  | 0, _ => decide
  | 1, _ => decide
  | 2, _ => decide
  | 3, _ => decide
  | 4, _ => decide
  | 5, _ => decide
  | 6, _ => decide
  | 7, _ => decide
  | 8, _ => decide
  | 9, _ => decide
  | c + 10, h => exact absurd h (by unfold tmOf; simp)
/-- where terms are named there are numbers -/
theorem plc_in {c : Nat} {nums : List Nat} {t : Sm03.Term} (h : tmOf c nums = some t) {p : Nat} (hp : p ∈ plc c) : ∃ a, nums[p]? = some a := by
  match c, tm_lt h with
  | 0, _ => cases hp
  | 1, _ => cases hp
  | 2, _ => obtain ⟨a, rfl, rfl⟩ := tm2 h; simp [plc] at hp; subst hp; exact ⟨_, rfl⟩
  | 3, _ => obtain ⟨a, rfl, rfl⟩ := tm3 h; simp [plc] at hp; subst hp; exact ⟨_, rfl⟩
  | 4, _ => obtain ⟨o, a, b, x, rfl, _, rfl⟩ := tm4 h; simp [plc] at hp; rcases hp with rfl | rfl <;> exact ⟨_, rfl⟩
  | 5, _ => obtain ⟨a, b, rfl, rfl⟩ := tm5 h; simp [plc] at hp; rcases hp with rfl | rfl <;> exact ⟨_, rfl⟩
  | 6, _ => obtain ⟨a, lo, n, rfl, rfl⟩ := tm6 h; simp [plc] at hp; subst hp; exact ⟨_, rfl⟩
  | 7, _ => obtain ⟨a, w, rfl, rfl⟩ := tm7 h; simp [plc] at hp; subst hp; exact ⟨_, rfl⟩
  | 8, _ => obtain ⟨a, w, rfl, rfl⟩ := tm8 h; simp [plc] at hp; subst hp; exact ⟨_, rfl⟩
  | 9, _ => obtain ⟨k, a, b, rfl, rfl⟩ := tm9 h; simp [plc] at hp; rcases hp with rfl | rfl | rfl <;> exact ⟨_, rfl⟩
theorem wr_cases (es : List Entry) (t : Sm03.Term) : Sm03.wrong es t = 0 ∨ Sm03.wrong es t = -1 ∨ Sm03.wrong es t = -2 := by
  cases t <;> unfold Sm03.wrong <;> dsimp only <;> repeat' split
  all_goals first | exact .inl rfl | exact .inr (.inl rfl) | exact .inr (.inr rfl)
theorem th_f {es : List Entry} {i : Nat} (h : ¬ i < es.length) : Sm03.there es i = false := (there_not _ _).mpr h
theorem th_t {es : List Entry} {i : Nat} (h : i < es.length) : Sm03.there es i = true := (there_iff _ _).mpr h
/-- one of the terms named isn't there -/
theorem wr_m2 {es : List Entry} {c : Nat} {nums : List Nat} {t : Sm03.Term} (h : tmOf c nums = some t) {p a : Nat} (hp : p ∈ plc c) (ha : nums[p]? = some a) (hn : ¬ a < es.length) : Sm03.wrong es t = -2 := by
  have hf := th_f hn
  match c, tm_lt h with
  | 0, _ => cases hp
  | 1, _ => cases hp
  | 2, _ =>
    obtain ⟨b, rfl, rfl⟩ := tm2 h; simp [plc] at hp; subst hp; cases ha
    show (if Sm03.there es a = true then 0 else -2) = (-2 : Int)
    rw [hf, if_neg Bool.false_ne_true]
  | 3, _ =>
    obtain ⟨b, rfl, rfl⟩ := tm3 h; simp [plc] at hp; subst hp; cases ha
    show (if Sm03.there es a = true then 0 else -2) = (-2 : Int)
    rw [hf, if_neg Bool.false_ne_true]
  | 4, _ =>
    obtain ⟨o, x, y, q, rfl, _, rfl⟩ := tm4 h; simp [plc] at hp
    show (if Sm03.there es x = false ∨ Sm03.there es y = false then -2 else _) = (-2 : Int)
    rcases hp with rfl | rfl <;> cases ha
    · exact if_pos (.inl hf)
    · exact if_pos (.inr hf)
  | 5, _ =>
    obtain ⟨x, y, rfl, rfl⟩ := tm5 h; simp [plc] at hp
    show (if Sm03.there es x = false ∨ Sm03.there es y = false then -2 else _) = (-2 : Int)
    rcases hp with rfl | rfl <;> cases ha
    · exact if_pos (.inl hf)
    · exact if_pos (.inr hf)
  | 6, _ =>
    obtain ⟨x, lo, n, rfl, rfl⟩ := tm6 h; simp [plc] at hp; subst hp; cases ha
    show (if Sm03.there es a = false then -2 else _) = (-2 : Int)
    exact if_pos hf
  | 7, _ =>
    obtain ⟨x, w, rfl, rfl⟩ := tm7 h; simp [plc] at hp; subst hp; cases ha
    show (if Sm03.there es a = false then -2 else _) = (-2 : Int)
    exact if_pos hf
  | 8, _ =>
    obtain ⟨x, w, rfl, rfl⟩ := tm8 h; simp [plc] at hp; subst hp; cases ha
    show (if Sm03.there es a = false then -2 else _) = (-2 : Int)
    exact if_pos hf
  | 9, _ =>
    obtain ⟨k, x, y, rfl, rfl⟩ := tm9 h; simp [plc] at hp
    show (if Sm03.there es k = false ∨ Sm03.there es x = false ∨ Sm03.there es y = false then -2 else _) = (-2 : Int)
    rcases hp with rfl | rfl | rfl <;> cases ha
    · exact if_pos (.inl hf)
    · exact if_pos (.inr (.inl hf))
    · exact if_pos (.inr (.inr hf))
/-- all are there -/
theorem wr_n2 {es : List Entry} {c : Nat} {nums : List Nat} {t : Sm03.Term} (h : tmOf c nums = some t) (ha : ∀ p ∈ plc c, ∀ a, nums[p]? = some a → a < es.length) : Sm03.wrong es t ≠ -2 := by
  match c, tm_lt h with
  | 0, _ => obtain ⟨w, rfl, rfl⟩ := tm0 h; unfold Sm03.wrong; dsimp only; split <;> decide
  | 1, _ => obtain ⟨w, v, rfl, rfl⟩ := tm1 h; unfold Sm03.wrong; dsimp only; repeat' split
            all_goals decide
  | 2, _ =>
    obtain ⟨b, rfl, rfl⟩ := tm2 h
    unfold Sm03.wrong; dsimp only; rw [if_pos (th_t (ha 0 (by simp [plc]) _ rfl))]; decide
  | 3, _ =>
    obtain ⟨b, rfl, rfl⟩ := tm3 h
    unfold Sm03.wrong; dsimp only; rw [if_pos (th_t (ha 0 (by simp [plc]) _ rfl))]; decide
  | 4, _ =>
    obtain ⟨o, x, y, q, rfl, _, rfl⟩ := tm4 h
    have h1 := th_t (ha 1 (by simp [plc]) x rfl)
    have h2 := th_t (ha 2 (by simp [plc]) y rfl)
    unfold Sm03.wrong; dsimp only; rw [if_neg (by rw [h1, h2]; simp)]; split <;> decide
  | 5, _ =>
    obtain ⟨x, y, rfl, rfl⟩ := tm5 h
    have h1 := th_t (ha 0 (by simp [plc]) x rfl)
    have h2 := th_t (ha 1 (by simp [plc]) y rfl)
    unfold Sm03.wrong; dsimp only; rw [if_neg (by rw [h1, h2]; simp)]; split <;> decide
  | 6, _ =>
    obtain ⟨x, lo, n, rfl, rfl⟩ := tm6 h
    have h1 := th_t (ha 0 (by simp [plc]) x rfl)
    unfold Sm03.wrong; dsimp only; rw [if_neg (by rw [h1]; simp)]; split <;> decide
  | 7, _ =>
    obtain ⟨x, w, rfl, rfl⟩ := tm7 h
    have h1 := th_t (ha 0 (by simp [plc]) x rfl)
    unfold Sm03.wrong; dsimp only; rw [if_neg (by rw [h1]; simp)]; split <;> decide
  | 8, _ =>
    obtain ⟨x, w, rfl, rfl⟩ := tm8 h
    have h1 := th_t (ha 0 (by simp [plc]) x rfl)
    unfold Sm03.wrong; dsimp only; rw [if_neg (by rw [h1]; simp)]; split <;> decide
  | 9, _ =>
    obtain ⟨k, x, y, rfl, rfl⟩ := tm9 h
    have h0 := th_t (ha 0 (by simp [plc]) k rfl)
    have h1 := th_t (ha 1 (by simp [plc]) x rfl)
    have h2 := th_t (ha 2 (by simp [plc]) y rfl)
    unfold Sm03.wrong; dsimp only; rw [if_neg (by rw [h0, h1, h2]; simp)]; split <;> decide
theorem inputs_app (es : List Entry) (t : Sm03.Term) (ws : List Nat) : Sm03.inputs (es ++ [⟨t, ws⟩]) = Sm03.inputs es ++ (match t with | .input w => [w] | _ => []) := by
  unfold Sm03.inputs
  rw [List.filterMap_append]
  cases t <;> rfl
theorem total_app (a b : List Nat) : Sm03.total (a ++ b) = Sm03.total a + Sm03.total b := by
  rw [total_sum, total_sum, total_sum, List.sum_append]
theorem total_new (es : List Entry) (t : Sm03.Term) (ws : List Nat) : Sm03.total (Sm03.inputs (es ++ [⟨t, ws⟩])) = Sm03.total (Sm03.inputs es) + (match t with | .input w => w | _ => 0) := by
  rw [inputs_app, total_app]
  congr 1
  cases t <;> first | rfl | exact Nat.zero_add _
theorem call0 {c : Nat} {nums : List Nat} {t : Sm03.Term} (h : tmOf c nums = some t) (hc : ¬ c = 0) : (match t with | .input w => w | _ => 0) = 0 := by
  match c, tm_lt h with
  | 0, _ => exact (hc rfl).elim
  | 1, _ => obtain ⟨w, v, rfl, rfl⟩ := tm1 h; rfl
  | 2, _ => obtain ⟨b, rfl, rfl⟩ := tm2 h; rfl
  | 3, _ => obtain ⟨b, rfl, rfl⟩ := tm3 h; rfl
  | 4, _ => obtain ⟨o, x, y, q, rfl, _, rfl⟩ := tm4 h; rfl
  | 5, _ => obtain ⟨x, y, rfl, rfl⟩ := tm5 h; rfl
  | 6, _ => obtain ⟨x, lo, n, rfl, rfl⟩ := tm6 h; rfl
  | 7, _ => obtain ⟨x, w, rfl, rfl⟩ := tm7 h; rfl
  | 8, _ => obtain ⟨x, w, rfl, rfl⟩ := tm8 h; rfl
  | 9, _ => obtain ⟨k, x, y, rfl, rfl⟩ := tm9 h; rfl
def spRefusal (CS CG : Addr) : Sp := fun vs H Q _ => ∃ (A : Ad) (s : Sm03.St) (c : Nat) (nn : Addr) (nums : List Nat) (t : Sm03.Term), vs = [.ref A.sa, .int c, .ref nn] ∧ SAt CS CG A H s ∧ H nn = some (.lst (lits nums)) ∧ tmOf c nums = some t ∧
  ∀ H', Same H H' → Q (.int (refusal s.now.terms t)) H'
/-- what no call changes -/
def KpS (A : Ad) (H H' : Hp) : Prop := ∀ b o, H b = some o → A.Out b → b ≠ A.k → H' b = some o
theorem KpS.refl {A : Ad} {H : Hp} : KpS A H H := fun _ _ h _ _ => h
theorem KpS.trans {A : Ad} {H H1 H2 : Hp} (a : KpS A H H1) (b : KpS A H1 H2) : KpS A H H2 := fun c o h h1 h2 => b c o (a c o h h1 h2) h1 h2
theorem KpS.of {A : Ad} {H H' : Hp} (h : Kp A.n A.k H H') : KpS A H H' := fun b o e ob bk => h b o e ob.n bk
theorem KpS.same {A : Ad} {H H' : Hp} (h : Same H H') : KpS A H H' := fun b o e _ _ => h b o e
/-- an address that is no term's word -/
def NW (A : Ad) (H : Hp) (x : Addr) : Prop := ∀ rs : List Addr, H A.pt = some (.lst (rs.map V.ref)) → x ∉ rs
/-- what was no word is none behind a call -/
def WKp (A A' : Ad) (H H' : Hp) : Prop := ∀ x o, H x = some o → NW A H x → NW A' H' x
theorem WKp.of {A : Ad} {H H' : Hp} {o : HO} (h : H A.pt = some o) (h' : H' A.pt = some o) : WKp A A H H' := fun x _ _ n rs e => n rs (by rw [h, ← h', e])
theorem WKp.same {A : Ad} {H H' : Hp} {o : HO} (h : H A.pt = some o) (s : Same H H') : WKp A A H H' := WKp.of h (s _ _ h)
theorem refs_inj : ∀ {a b : List Addr}, a.map V.ref = b.map V.ref → a = b
  | [], [], _ => rfl
  | [], _ :: _, h => by cases h
  | _ :: _, [], h => by cases h
  | x :: a, y :: b, h => by
    injection h with h1 h2
    injection h1 with h1
    rw [h1, refs_inj h2]
theorem WKp.snoc {A : Ad} {H H' : Hp} {rs : List Addr} {r : Addr} (h : H A.pt = some (.lst (rs.map V.ref))) (h' : H' A.pt = some (.lst (rs.map V.ref ++ [.ref r]))) (hr : H r = none) : WKp A A H H' := fun x o ex n rs' e => by
  rw [h'] at e
  injection e with e
  injection e with e
  have e2 : (rs ++ [r]).map V.ref = rs'.map V.ref := by rw [← e, List.map_append]; rfl
  rw [← refs_inj e2]
  intro hx
  rcases List.mem_append.mp hx with hx | hx
  · exact n rs h hx
  · rw [List.mem_singleton] at hx
    subst hx
    rw [hr] at ex
    cases ex
def Ansd (CS CG : Addr) (A : Ad) (H : Hp) (Q : VK) (r : Sm03.St × List Int) : Prop := ∀ (p : Addr) (H' : Hp), SAt CS CG A H' r.1 → KpS A H H' → WKp A A H H' → H p = none → H' p = some (.lst (r.2.map V.int)) → Q (.ref p) H'
def spTerm (CS CG : Addr) : Sp := fun vs H Q _ => ∃ (A : Ad) (s : Sm03.St) (c : Nat) (nn : Addr) (nums : List Nat) (t : Sm03.Term), vs = [.ref A.sa, .int c, .ref nn] ∧ SAt CS CG A H s ∧ H nn = some (.lst (lits nums)) ∧ A.Out nn ∧ tmOf c nums = some t ∧
  Ansd CS CG A H Q (Sm03.step s (.new t))
theorem step_new (s : Sm03.St) (t : Sm03.Term) : Sm03.step s (.new t) = if refusal s.now.terms t < 0 then (s, [refusal s.now.terms t]) else
    if 1200 < (Sm03.made s.now.graph s.now.terms t).1.length then (s, [-6]) else
      (⟨⟨(Sm03.made s.now.graph s.now.terms t).1, s.now.terms ++ [⟨t, (Sm03.made s.now.graph s.now.terms t).2⟩], s.now.claims⟩, s.marks⟩, [(s.now.terms.length : Int), ((Sm03.made s.now.graph s.now.terms t).1.length : Int)]) := by
  show (if Sm03.wrong s.now.terms t < 0 then (s, [Sm03.wrong s.now.terms t]) else if 30 ≤ s.now.terms.length then (s, [-5]) else if 10 < Sm03.total (Sm03.inputs (s.now.terms ++ [⟨t, []⟩])) then (s, [-4]) else _) = _
  unfold refusal
  by_cases h1 : Sm03.wrong s.now.terms t < 0
  · rw [if_pos h1, if_pos h1, if_pos h1]
  · rw [if_neg h1, if_neg h1]
    by_cases h2 : 30 ≤ s.now.terms.length
    · rw [if_pos h2, if_pos h2, if_pos (by decide)]
    · rw [if_neg h2, if_neg h2]
      by_cases h3 : 10 < Sm03.total (Sm03.inputs (s.now.terms ++ [⟨t, []⟩]))
      · rw [if_pos h3, if_pos h3, if_pos (by decide)]
      · rw [if_neg h3, if_neg h3, if_neg (show ¬ (0 : Int) < 0 by decide)]
theorem SAt.freshOut {CS CG : Addr} {A : Ad} {H : Hp} {s : Sm03.St} (h : SAt CS CG A H s) {p : Addr} (hp : H p = none) : A.Out p := by
  obtain ⟨rs, h2, _⟩ := h.terms
  obtain ⟨ms, h4, _⟩ := h.marks
  exact ⟨h.gat.fresh_n hp, (ne_of_none h2 hp).symm, (ne_of_none h.inputs hp).symm, (ne_of_none h.claims hp).symm, (ne_of_none h4 hp).symm⟩
/-- the state with the gates changed, and one term more -/
theorem WF.add {d : Sm03.Stand} (h : WF d) {t : Sm03.Term} (hr : ¬ refusal d.terms t < 0) (hg : ¬ 1200 < (Sm03.made d.graph d.terms t).1.length) :
    WF ⟨(Sm03.made d.graph d.terms t).1, d.terms ++ [⟨t, (Sm03.made d.graph d.terms t).2⟩], d.claims⟩ ∧ Sm03.wrong d.terms t = 0 := by
  unfold refusal at hr
  have c := wr_cases d.terms t
  by_cases h1 : Sm03.wrong d.terms t < 0
  · rw [if_pos h1] at hr; exact (hr h1).elim
  rw [if_neg h1] at hr
  by_cases h2 : 30 ≤ d.terms.length
  · rw [if_pos h2] at hr; exact (hr (by decide)).elim
  rw [if_neg h2] at hr
  by_cases h3 : 10 < Sm03.total (Sm03.inputs (d.terms ++ [⟨t, []⟩]))
  · rw [if_pos h3] at hr; exact (hr (by decide)).elim
  have hw : Sm03.wrong d.terms t = 0 := by omega
  obtain ⟨m1, m2, m3⟩ := BS.made_len (g := d.graph) h.wl hw
  refine ⟨⟨fun e he => ?_, ?_, by dsimp only; omega, ?_, fun e he w q => ?_, h.cl, fun x hx => ?_, h.gd.add hw⟩, hw⟩
  · rcases List.mem_append.mp he with he | he
    · exact h.wl e he
    · rw [List.mem_singleton] at he
      subst he
      exact ⟨m1, m2⟩
  · show (d.terms ++ [_]).length ≤ 30
    rw [List.length_append]
    show d.terms.length + 1 ≤ 30
    omega
  · show Sm03.total (Sm03.inputs (d.terms ++ [_])) ≤ 10
    rw [total_new] at h3 ⊢
    omega
  · rcases List.mem_append.mp he with he | he
    · exact h.iw e he w q
    · rw [List.mem_singleton] at he
      subst he
      exact m3 w q
  · obtain ⟨a, b⟩ := h.cw x hx
    refine ⟨?_, ?_⟩
    · show x < (d.terms ++ [_]).length
      rw [List.length_append]
      omega
    · show Sm03.widthOf (d.terms ++ [_]) x = 1
      unfold Sm03.widthOf Sm03.wordOf at b ⊢
      rw [List.getElem?_append_left a]
      exact b
theorem upd_self {H : Hp} {p : Addr} {o : HO} (h : H p = some o) : upd H p o = H := by
  funext b
  by_cases e : b = p
  · subst e
    rw [upd_same, h]
  · rw [upd_ne e]
section
variable {CS CG : Addr} {A : Ad} {H H' : Hp} {s : Sm03.St}
theorem SRd.sat (h : SRd CS CG A H' s.now.graph s) (hS : SAt CS CG A H s) : SAt CS CG A H' s := ⟨h.ins, h.gat, h.terms, h.inputs, h.claims, h.marks, hS.d1, hS.d2, hS.ml, hS.ch⟩
/-- a word put behind the terms, its name behind the inputs if it's one -/
theorem SRd.put {g : Graph} (h : SRd CS CG A H' g s) (hS : SAt CS CG A H s) {e : Entry} {rs : List Addr} {pw : Addr} (hrs : H' A.pt = some (.lst (rs.map V.ref))) (hw : Wds A H' rs s.now.terms) (hp : H' pw = some (.lst (lits e.word))) (ho : A.Out pw)
    (wf : WF ⟨g, s.now.terms ++ [e], s.now.claims⟩) (pre : s.now.graph <+: g) :
    SAt CS CG A (upd (upd H' A.pt (.lst (rs.map V.ref ++ [.ref pw]))) A.pi (.lst (lits (inIdx 0 (s.now.terms ++ [e]))))) ⟨⟨g, s.now.terms ++ [e], s.now.claims⟩, s.marks⟩ := by
  obtain ⟨dx, h1⟩ := h.ins
  obtain ⟨ms, h4, h5⟩ := h.marks
  obtain ⟨d11, d12, d13, d14⟩ := hS.d1
  obtain ⟨d21, d22, d23, d24, d25, d26⟩ := hS.d2
  have g1 := h.gat.updL (ys := rs.map V.ref ++ [.ref pw]) hrs d11
  have hpi : (upd H' A.pt (.lst (rs.map V.ref ++ [.ref pw]))) A.pi = some (.lst (lits (inIdx 0 s.now.terms))) := by rw [upd_ne d21.symm]; exact h.inputs
  have g2 := g1.updL (ys := lits (inIdx 0 (s.now.terms ++ [e]))) hpi d12
  have lst : ∀ {r : Addr} {xs : List V}, H' r = some (.lst xs) → r ≠ A.pt → r ≠ A.pi → (upd (upd H' A.pt (.lst (rs.map V.ref ++ [.ref pw]))) A.pi (.lst (lits (inIdx 0 (s.now.terms ++ [e]))))) r = some (.lst xs) := fun e r1 r2 => by
    rw [upd_ne r2, upd_ne r1]
    exact e
  refine ⟨⟨dx, ?_⟩, g2, ⟨rs ++ [pw], ?_, (hw.mono fun r xs o q => lst q o.pt o.pi).snoc (lst hp ho.pt ho.pi) ho⟩, upd_same, lst h.claims d22.symm d24.symm, ⟨ms, lst h4 d23.symm d25.symm, h5.mono fun r xs q => ?_⟩, hS.d1, hS.d2, hS.ml, ?_⟩
  · rw [upd_ne (ne_of h1 h.inputs (by intro z; cases z)), upd_ne (ne_of h1 hrs (by intro z; cases z))]
    exact h1
  · rw [upd_ne d21, upd_same, List.map_append]
    rfl
  · rw [upd_ne (ne_of q h.inputs (by intro z; cases z)), upd_ne (ne_of q hrs (by intro z; cases z))]
    exact q
  · exact hS.ch.up wf ⟨pre, List.prefix_append _ _, List.prefix_refl _⟩
theorem kps_put {g : Graph} {ys zs : List V} (k : Kp A.n A.k H H') : KpS A H (upd (upd H' A.pt (.lst ys)) A.pi (.lst zs)) := fun b o e ob bk => by
  rw [upd_ne ob.pi, upd_ne ob.pt]
  exact k b o e ob.n bk
end
theorem inIdx_new (es : List Entry) (t : Sm03.Term) (ws : List Nat) : inIdx 0 (es ++ [⟨t, ws⟩]) = inIdx 0 es ++ (match t with | .input _ => [es.length] | _ => []) := by
  rw [inIdx_app]
  congr 1
  cases t <;> first | rfl | (show [0 + es.length] = [es.length]; rw [Nat.zero_add])
theorem call0' {c : Nat} {nums : List Nat} {t : Sm03.Term} (h : tmOf c nums = some t) (hc : ¬ c = 0) (n : Nat) : (match t with | .input _ => [n] | _ => ([] : List Nat)) = [] := by
  match c, tm_lt h with
  | 0, _ => exact (hc rfl).elim
  | 1, _ => obtain ⟨w, v, rfl, rfl⟩ := tm1 h; rfl
  | 2, _ => obtain ⟨b, rfl, rfl⟩ := tm2 h; rfl
  | 3, _ => obtain ⟨b, rfl, rfl⟩ := tm3 h; rfl
  | 4, _ => obtain ⟨o, x, y, q, rfl, _, rfl⟩ := tm4 h; rfl
  | 5, _ => obtain ⟨x, y, rfl, rfl⟩ := tm5 h; rfl
  | 6, _ => obtain ⟨x, lo, n, rfl, rfl⟩ := tm6 h; rfl
  | 7, _ => obtain ⟨x, w, rfl, rfl⟩ := tm7 h; rfl
  | 8, _ => obtain ⟨x, w, rfl, rfl⟩ := tm8 h; rfl
  | 9, _ => obtain ⟨k, x, y, rfl, rfl⟩ := tm9 h; rfl
end BC

set_option Elab.async false
set_option linter.all false
set_option maxRecDepth 100000
set_option maxHeartbeats 2000000
namespace BC
open PySem PySem.Spec PyProof.Rows L2
section
variable {P : Program} {w : World} {K : PySem.W.Frag} {mg : Str → Option Value} {base : Heap} {CG CS CW : Addr} {f : Addr} {fd : FuncData}
abbrev s_refusal_of_term : Stmt := top 82
abbrev N_refusal_of_term : List Str := ["state", "call", "numbers", "place", "unfit"]
theorem sc_refusal_of_term : FnScope N_refusal_of_term ["state", "call", "numbers"] (defScope s_refusal_of_term) := ⟨rfl, rfl, rfl, by decide +kernel, rfl, by decide +kernel, by decide +kernel⟩
theorem ok_refusal_of_term (F : Fun K "refusal_of_term" "refusal_of_term" s_refusal_of_term f fd) {a_NAMED : Addr} {a_UNFITS : Addr} (m_NAMED : mg "NAMED" = some (.ref a_NAMED)) (D_has : DM P w K mg base CS 1 "has" (spHas CS CG)) (g_NO_TERM : GI mg "NO_TERM" (-2)) (m_UNFITS : mg "UNFITS" = some (.ref a_UNFITS)) (g_UNFIT : GI mg "UNFIT" (-1)) (b_len : mg "len" = none) (T_State : TState K CS) (g_MOST_TERMS : GI mg "MOST_TERMS" 30) (g_FULL : GI mg "FULL" (-5)) (D_bits_of_inputs : DM P w K mg base CS 2 "bits_of_inputs" (spBits CS CG)) (g_MOST_INPUT_BITS : GI mg "MOST_INPUT_BITS" 10) (g_INPUT_CALL : GI mg "INPUT_CALL" 0) (g_TOO_MANY_INPUT_BITS : GI mg "TOO_MANY_INPUT_BITS" (-4)) {rn ru : List V} (kN : TupK K a_NAMED rn) (hN : ∀ c, c < 10 → ∃ t, rn[c]? = some (.ref t) ∧ TupK K t (lits (plc c))) (kU : TupK K a_UNFITS ru) (hU : ∀ c, c < 10 → ∃ f sp, ru[c]? = some (.ref f) ∧ Hld P w K mg base 2 f sp ∧ ∀ vs H Q E, spUnfit CS CG c vs H Q E → sp vs H Q E) : FnOk P w K mg base CX0 3 f fd ["state", "call", "numbers"] (spRefusal CS CG) := by
  refine F.ok sc_refusal_of_term (fun vs H Q E h => ?_) (fun cdv A outer s H vs Q E hr h => ?_)
  · obtain ⟨_, _, _, _, _, _, rfl, _⟩ := h
    rfl
  · obtain ⟨A, s, c, nn, nums, t, rfl, hS, hn, ht, q⟩ := h
    obtain ⟨tn, hn1, hn2⟩ := hN c (tm_lt ht)
    obtain ⟨fu, spu, hu1, hu2, hu3⟩ := hU c (tm_lt ht)
    have hu := hu_of hr
    refine ⟨_, (pss_cons (ps_for PassesOwn.never rfl (pi_tup (pe_ix ix_tup (pe_gr m_NAMED) (pv 1) (fun _ _ => rfl))) (pg_name (i := 3) sc_refusal_of_term.nd rfl (Or.inl rfl))
      (pss_one (ps_if (pt_not (pt_val (pe_dm (pv 0) D_has (hr.mono (by decide)) (pa_cons (pe_ix ix_list (pv 2) (pv 3) (fun _ _ => rfl)) pa_nil))))
      (pss_one (ps_ret (pe_gi g_NO_TERM)))
      pss_nil)))
      (pss_cons (ps_set (i := 4) sc_refusal_of_term.nd rfl (Or.inl rfl) (pe_ix ix_tup (pe_gr m_UNFITS) (pv 1) (fun _ _ => rfl)))
      (pss_cons (ps_if (pt_val (pe_callD (k := 2) (i := 4) hr rfl (pa_cons (pv 0) (pa_cons (pv 2) pa_nil))))
      (pss_one (ps_ret (pe_gi g_UNFIT)))
      pss_nil)
      (pss_cons (ps_if (pt_cmpR op_ge (pe_callB call_len_seq (by rfl) b_len PySem.boot_len (pa_cons (pe_fld (pv 0) rfl) pa_nil)) (pe_gi g_MOST_TERMS) (nomark _))
      (pss_one (ps_ret (pe_gi g_FULL)))
      pss_nil)
      (pss_cons (ps_if (PW.pt (pw_and (pt_cmpR op_eq (pv 1) (pe_gi g_INPUT_CALL) (nomark _)) (pw_and1 (pt_cmpR op_gt (pe_op op_add (pe_dm0 (pv 0) D_bits_of_inputs hr) (pe_ix ix_list (pv 2) pe_int (fun _ _ => rfl))) (pe_gi g_MOST_INPUT_BITS) (nomark _)))))
      (pss_one (ps_ret (pe_gi g_TOO_MANY_INPUT_BITS)))
      pss_nil)
      (pss_one (ps_ret pe_int))))))), ?_⟩
    have hW := hS.wf
    refine ⟨_, rfl, a_NAMED, _, _, _, rfl, rfl, kN _, atI_nat hn1, tn, rfl, ⟨_, hn2 _⟩, ?_⟩
    refine for_it (walk_tup (K := K) (a := tn) (xs := lits (plc c))) (fun i σ H1 => ∃ v3, σ = [some (.ref A.sa), some (.int ((c : Nat) : Int)), some (.ref nn), v3, none] ∧ Same H H1 ∧ ∀ j p a, j < i → (plc c)[j]? = some p → nums[p]? = some a → a < s.now.terms.length)
      ⟨none, rfl, Same.refl H, fun j p a hj => by omega⟩ (fun _ _ _ _ _ => hn2 _) ?_ ?_
    · rintro i v σ H0 H1 hi ⟨v3, rfl, s1, hall⟩ ⟨rfl, hx'⟩
      obtain ⟨p, hp, rfl⟩ := lits_at hx'
      have hpm := List.mem_of_getElem? hp
      obtain ⟨a, ha⟩ := plc_in ht hpm
      have hS1 := hS.same s1
      obtain ⟨dx, h1⟩ := hS1.ins
      refine ⟨_, rfl, A.sa, dx, _, rfl, h1, by rfl, _, rfl, _, rfl, nn, _, _, _, rfl, rfl, .inl (.inl (s1 _ _ hn)), atI_nat (at_lits ha), A, s, a, rfl, hS1, _, rfl, ?_⟩
      by_cases hin : a < s.now.terms.length
      · refine if_false_of (by rw [decide_eq_true hin]; rfl) ?_
        refine ⟨_, rfl, s1, fun j p' a' hj hp' ha' => ?_⟩
        by_cases hji : j = i
        · subst hji
          rw [hp] at hp'
          cases hp'
          rw [ha] at ha'
          cases ha'
          exact hin
        · exact hall j p' a' (by omega) hp' ha'
      · refine if_true_of (by rw [decide_eq_false hin]; rfl) ?_
        have e : refusal s.now.terms t = -2 := by
          unfold refusal
          rw [wr_m2 ht hpm ha hin, if_pos (by decide)]
        rw [e] at q
        exact q _ s1
    rintro σ H1 ⟨v3, rfl, s1, hall⟩
    rw [lits_len] at hall
    have n2 : Sm03.wrong s.now.terms t ≠ -2 := wr_n2 ht fun p hp a ha => by
      obtain ⟨j, hj⟩ := List.getElem?_of_mem hp
      exact hall j p a (List.getElem?_eq_some_iff.mp hj).1 hj ha
    have hS1 := hS.same s1
    refine ⟨_, rfl, a_UNFITS, _, _, _, rfl, rfl, kU _, atI_nat hu1, ?_⟩
    refine ⟨fu, spu, rfl, hu2, _, rfl, _, rfl, hu3 _ _ _ _ ⟨A, s, nn, nums, t, rfl, hS1, s1 _ _ hn, ht, n2, fun H2 s2 => ?_⟩⟩
    have s12 := s1.trans s2
    refine ⟨_, rfl, ?_⟩
    by_cases c1 : Sm03.wrong s.now.terms t < 0
    · refine if_true_of (decide_eq_true c1) ?_
      have e : refusal s.now.terms t = -1 := by
        have := wr_cases s.now.terms t
        unfold refusal
        rw [if_pos c1]
        omega
      rw [e] at q
      exact q _ s12
    refine if_false_of (decide_eq_false c1) ?_
    have hS2 := hS.same s12
    obtain ⟨dx, h1⟩ := hS2.ins
    obtain ⟨rs, h2, h3⟩ := hS2.terms
    refine ⟨_, rfl, A.sa, CS, dx, _, _, rfl, h1, T_State.cl, T_State.nT, sF_terms A, A.pt, _, rfl, .inl (.inl (.inl h2)), _, _, rfl, rfl, _, rfl, ?_⟩
    have tl : (rs.map V.ref).length = s.now.terms.length := by rw [List.length_map, h3.len]
    by_cases c2 : 30 ≤ s.now.terms.length
    · refine if_true_of (decide_eq_true (by rw [tl]; omega)) ?_
      have e : refusal s.now.terms t = -5 := by
        unfold refusal
        rw [if_neg c1, if_pos c2]
      rw [e] at q
      exact q _ s12
    refine if_false_of (decide_eq_false (by rw [tl]; omega)) ?_
    refine ⟨_, rfl, rfl, _, rfl, ?_⟩
    by_cases c0 : c = 0
    · refine if_true_of (decide_eq_true (by rw [c0]; rfl)) ?_
      subst c0
      obtain ⟨w0, rfl, rfl⟩ := tm0 ht
      refine ⟨_, rfl, A.sa, dx, _, rfl, h1, by rfl, A, s, rfl, hS2, fun H3 s3 => ?_⟩
      have s123 := s12.trans s3
      refine ⟨_, rfl, nn, _, _, _, rfl, rfl, .inl (.inl (s123 _ _ hn)), at0 _ _, _, _, rfl, rfl, _, _, rfl, rfl, _, rfl, ?_⟩
      have tn := total_new s.now.terms (.input w0) []
      by_cases c3 : 10 < Sm03.total (Sm03.inputs (s.now.terms ++ [⟨.input w0, []⟩]))
      · refine if_true_of (decide_eq_true (by dsimp only at tn; omega)) ?_
        have e : refusal s.now.terms (.input w0) = -4 := by
          unfold refusal
          rw [if_neg c1, if_neg c2, if_pos c3]
        rw [e] at q
        exact q _ s123
      · refine if_false_of (decide_eq_false (by dsimp only at tn; omega)) ?_
        have e : refusal s.now.terms (.input w0) = 0 := by
          unfold refusal
          rw [if_neg c1, if_neg c2, if_neg c3]
        rw [e] at q
        exact q _ s123
    · refine if_false_of (decide_eq_false (fun z => c0 (by injection z with z; omega))) (if_false_of rfl ?_)
      have e : refusal s.now.terms t = 0 := by
        have tn := total_new s.now.terms t []
        have il := hW.il
        rw [call0 ht c0] at tn
        unfold refusal
        rw [if_neg c1, if_neg c2, if_neg (by omega)]
      rw [e] at q
      exact q _ s12

abbrev s_answer_of_term : Stmt := top 83
abbrev N_answer_of_term : List Str := ["state", "call", "numbers", "refusal", "size", "make", "word", "name"]
theorem sc_answer_of_term : FnScope N_answer_of_term ["state", "call", "numbers"] (defScope s_answer_of_term) := ⟨rfl, rfl, rfl, by decide +kernel, rfl, by decide +kernel, by decide +kernel⟩
theorem ok_answer_of_term (F : Fun K "answer_of_term" "answer_of_term" s_answer_of_term f fd) {a_MAKERS : Addr} (D_refusal_of_term : DF P w K mg base 3 "refusal_of_term" (spRefusal CS CG)) (T_State : TState K CS) (D_size : DM P w K mg base CG 1 "size" (spSize CG)) (m_MAKERS : mg "MAKERS" = some (.ref a_MAKERS)) (g_MOST_NODES : GI mg "MOST_NODES" 1200) (D_shrink : DM P w K mg base CG 1 "shrink" (spShrink CG)) (g_TOO_MANY_NODES : GI mg "TOO_MANY_NODES" (-6)) (b_len : mg "len" = none) (g_INPUT_CALL : GI mg "INPUT_CALL" 0) {rm : List V} (kM : TupK K a_MAKERS rm) (hM : ∀ c, c < 10 → ∃ f, rm[c]? = some (.ref f) ∧ Hld P w K mg base 10 f (spMake CS CG c)) : FnOk P w K mg base CX0 11 f fd ["state", "call", "numbers"] (spTerm CS CG) := by
  refine F.ok sc_answer_of_term (fun vs H Q E h => ?_) (fun cdv A outer s H vs Q E hr h => ?_)
  · obtain ⟨_, _, _, _, _, _, rfl, _⟩ := h
    rfl
  · obtain ⟨A, s, c, nn, nums, t, rfl, hS, hn, hno, ht, q⟩ := h
    obtain ⟨fm, hm1, hm2⟩ := hM c (tm_lt ht)
    rw [step_new] at q
    have hu := hu_of hr
    refine ⟨_, (pss_cons (ps_set (i := 3) sc_answer_of_term.nd rfl (Or.inl rfl) (pe_df D_refusal_of_term (hr.mono (by decide)) (pa_cons (pv 0) (pa_cons (pv 1) (pa_cons (pv 2) pa_nil)))))
      (pss_cons (ps_if (pt_cmpR op_lt (pv 3) pe_int (nomark _))
      (pss_one (ps_ret (pe_lst (pa_cons (pv 3) pa_nil))))
      pss_nil)
      (pss_cons (ps_set (i := 4) sc_answer_of_term.nd rfl (Or.inl rfl) (pe_dm0 (pe_fld (pv 0) rfl) D_size (hr.mono (by decide))))
      (pss_cons (ps_set (i := 5) sc_answer_of_term.nd rfl (Or.inl rfl) (pe_ix ix_tup (pe_gr m_MAKERS) (pv 1) (fun _ _ => rfl)))
      (pss_cons (ps_set (i := 6) sc_answer_of_term.nd rfl (Or.inl rfl) (pe_callD (k := 10) (i := 5) hr rfl (pa_cons (pv 0) (pa_cons (pv 2) pa_nil))))
      (pss_cons (ps_if (pt_cmpR op_gt (pe_dm0 (pe_fld (pv 0) rfl) D_size (hr.mono (by decide))) (pe_gi g_MOST_NODES) (nomark _))
      (pss_cons (ps_expr (pe_dm (pe_fld (pv 0) rfl) D_shrink (hr.mono (by decide)) (pa_cons (pv 4) pa_nil)))
      (pss_one (ps_ret (pe_lst (pa_cons (pe_gi g_TOO_MANY_NODES) pa_nil)))))
      pss_nil)
      (pss_cons (ps_set (i := 7) sc_answer_of_term.nd rfl (Or.inl rfl) (pe_callB call_len_seq (by rfl) b_len PySem.boot_len (pa_cons (pe_fld (pv 0) rfl) pa_nil)))
      (pss_cons (ps_expr (pe_bm PySem.F.plainAttrs_list PySem.F.slot_list_append PySem.F.type_list_append mt_append (pe_fld (pv 0) rfl) (pa_cons (pv 6) pa_nil)))
      (pss_cons (ps_if (pt_cmpR op_eq (pv 1) (pe_gi g_INPUT_CALL) (nomark _))
      (pss_one (ps_expr (pe_bm PySem.F.plainAttrs_list PySem.F.slot_list_append PySem.F.type_list_append mt_append (pe_fld (pv 0) rfl) (pa_cons (pv 7) pa_nil))))
      pss_nil)
      (pss_one (ps_ret (pe_lst (pa_cons (pv 7) (pa_cons (pe_dm0 (pe_fld (pv 0) rfl) D_size (hr.mono (by decide))) pa_nil)))))))))))))), ?_⟩
    refine ⟨_, rfl, _, rfl, _, rfl, A, s, c, nn, nums, t, rfl, hS, hn, ht, fun H1 s1 => ?_⟩
    refine ⟨_, rfl, _, _, rfl, rfl, _, rfl, ?_⟩
    by_cases c1 : refusal s.now.terms t < 0
    · refine if_true_of (decide_eq_true c1) ?_
      rw [if_pos c1] at q
      refine ⟨_, rfl, (by show 1 ≤ sizeLine; decide), fun p hp => ?_⟩
      have sp := s1.trans (same_upd (o := .lst [.int (refusal s.now.terms t)]) hp)
      obtain ⟨rs0, h20, _⟩ := hS.terms
      exact q p _ (hS.same sp) (KpS.same sp) (WKp.same h20 sp) (s1.free hp) upd_same
    refine if_false_of (decide_eq_false c1) ?_
    rw [if_neg c1] at q
    have hS1 := hS.same s1
    obtain ⟨dx, h1⟩ := hS1.ins
    obtain ⟨dg, hg⟩ := hS1.gat.ins
    refine ⟨_, rfl, A.sa, CS, dx, _, _, rfl, h1, T_State.cl, T_State.nG, sF_gates A, A.ga, dg, _, rfl, hg, by rfl, A.ga, A.n, A.k, _, rfl, hS1.gat, ?_⟩
    refine ⟨_, rfl, a_MAKERS, _, _, _, rfl, rfl, kM _, atI_nat hm1, ?_⟩
    have hw0 : Sm03.wrong s.now.terms t = 0 := by
      have := wr_cases s.now.terms t
      unfold refusal at c1
      by_cases h : Sm03.wrong s.now.terms t < 0
      · rw [if_pos h] at c1; exact (c1 h).elim
      · omega
    refine ⟨fm, _, rfl, hm2, _, rfl, _, rfl, A, s, nn, nums, t, rfl, hS1, s1 _ _ hn, hno.n, ht, hw0, fun pw H2 hG2 k2 hpw e2 => ?_⟩
    have hR := hS1.kp hG2 k2
    obtain ⟨dx2, h12⟩ := hR.ins
    obtain ⟨dg2, hg2⟩ := hG2.ins
    refine ⟨_, rfl, A.sa, CS, dx2, _, _, rfl, h12, T_State.cl, T_State.nG, sF_gates A, A.ga, dg2, _, rfl, hg2, by rfl, A.ga, A.n, A.k, _, rfl, hG2, _, _, rfl, rfl, _, rfl, ?_⟩
    have pre := BS.made_pre s.now.graph s.now.terms t
    by_cases c2 : 1200 < (Sm03.made s.now.graph s.now.terms t).1.length
    · refine if_true_of (decide_eq_true (by omega)) ?_
      rw [if_pos c2] at q
      refine ⟨_, rfl, A.sa, CS, dx2, _, _, rfl, h12, T_State.cl, T_State.nG, sF_gates A, A.ga, dg2, _, rfl, hg2, by rfl, _, rfl, A.ga, A.n, A.k, _, s.now.graph.length, rfl, hG2, pre.length_le, fun H3 hG3 k3 => ?_⟩
      rw [← List.prefix_iff_eq_take.mp pre] at hG3
      have k23 := k2.trans k3
      have hS3 := (hS1.kp hG3 k23).sat hS1
      refine ⟨(by show 1 ≤ sizeLine; decide), fun p hp => ?_⟩
      have pf : H p = none := s1.free (kp_free k23 hS1.gat hp (hG3.fresh_n hp) (hG3.fresh_k hp))
      obtain ⟨rs0, h20, _⟩ := hS.terms
      have e30 : H3 A.pt = some (.lst (rs0.map V.ref)) := k23 _ _ (s1 _ _ h20) hS.d1.1 (ne_of (s1 _ _ h20) hS1.gat.known (by intro z; cases z))
      exact q p _ (hS3.same (same_upd hp)) ((KpS.same s1).trans ((KpS.of k23).trans (KpS.same (same_upd hp)))) (WKp.of h20 (same_upd hp _ _ e30)) pf upd_same
    refine if_false_of (decide_eq_false (by omega)) ?_
    rw [if_neg c2] at q
    obtain ⟨rs, h2, h3⟩ := hR.terms
    obtain ⟨wf, _⟩ := hS.wf.add c1 c2
    have tl := hS.wf.tl
    have rl : rs.length = s.now.terms.length := h3.len
    have hL : (100 : Nat) ≤ LIM := by decide
    have pwo : A.Out pw := hS1.freshOut hpw
    have hput := hR.put hS1 (e := ⟨t, (Sm03.made s.now.graph s.now.terms t).2⟩) h2 h3 e2 pwo wf pre
    have hkp := kps_put (A := A) (g := s.now.graph) (ys := rs.map V.ref ++ [.ref pw]) (zs := lits (inIdx 0 (s.now.terms ++ [⟨t, (Sm03.made s.now.graph s.now.terms t).2⟩]))) k2
    have key : ∀ H4, H4 = upd (upd H2 A.pt (.lst (rs.map V.ref ++ [.ref pw]))) A.pi (.lst (lits (inIdx 0 (s.now.terms ++ [⟨t, (Sm03.made s.now.graph s.now.terms t).2⟩])))) → ∀ v3 v4 v5 v6,
        tLst (tCons (tVar 7) (tCons (tMeth CG "size" (spSize CG) [] E0 (tFld K (tVar 0) "gates") tNil) tNil)) [some (.ref A.sa), some (.int ((c : Nat) : Int)), some (.ref nn), v3, v4, v5, v6, some (.int (((rs.map V.ref).length : Nat) : Int))] H4 Q := by
      intro H4 e4 v3 v4 v5 v6
      rw [← e4] at hput hkp
      obtain ⟨dx4, h14⟩ := hput.ins
      obtain ⟨dg4, hg4⟩ := hput.gat.ins
      refine ⟨_, rfl, _, rfl, A.sa, CS, dx4, _, _, rfl, h14, T_State.cl, T_State.nG, sF_gates A, A.ga, dg4, _, rfl, hg4, by rfl, A.ga, A.n, A.k, _, rfl, hput.gat, (by show 2 ≤ sizeLine; decide), fun p hp => ?_⟩
      have pf : H p = none := by
        cases e : H p with
        | none => rfl
        | some o =>
          have e1 := s1 _ _ e
          by_cases hp2 : H2 p = none
          · exact absurd e1 (by rw [kp_free k2 hS1.gat hp2 (hG2.fresh_n hp2) (hG2.fresh_k hp2)]; intro z; cases z)
          · rw [e4] at hp
            exact (hp2 (free_upd (free_upd hp).1).1).elim
      rw [List.length_map, rl]
      obtain ⟨rs0, h20, _⟩ := hS.terms
      have e20 : H2 A.pt = some (.lst (rs0.map V.ref)) := k2 _ _ (s1 _ _ h20) hS.d1.1 (ne_of (s1 _ _ h20) hS1.gat.known (by intro z; cases z))
      have ers : rs0.map V.ref = rs.map V.ref := by
        rw [h2] at e20
        injection e20 with e20
        injection e20 with e20
        exact e20.symm
      have e40 : H4 A.pt = some (.lst (rs0.map V.ref ++ [.ref pw])) := by rw [e4, upd_ne hS.d2.1, upd_same, ers]
      exact q p _ (hput.same (same_upd hp)) ((KpS.same s1).trans (hkp.trans (KpS.same (same_upd hp)))) (WKp.snoc h20 (same_upd hp _ _ e40) (s1.free hpw)) pf upd_same
    have inn := inIdx_new s.now.terms t (Sm03.made s.now.graph s.now.terms t).2
    refine ⟨_, rfl, A.sa, CS, dx2, _, _, rfl, h12, T_State.cl, T_State.nT, sF_terms A, A.pt, _, rfl, .inl (.inl (.inl h2)), ?_⟩
    refine ⟨_, rfl, A.sa, CS, dx2, _, _, rfl, h12, T_State.cl, T_State.nT, sF_terms A, .inl ⟨rfl, _, .inl (.inl h2)⟩, _, rfl, A.pt, _, _, rfl, rfl, h2, lim_lt (by rw [List.length_map, rl]; omega), ?_⟩
    have hpi : (upd H2 A.pt (.lst (rs.map V.ref ++ [.ref pw]))) A.pi = some (.lst (lits (inIdx 0 s.now.terms))) := by rw [upd_ne hS.d2.1.symm]; exact hR.inputs
    refine ⟨_, rfl, rfl, _, rfl, ?_⟩
    by_cases c0 : c = 0
    · refine if_true_of (decide_eq_true (by rw [c0]; rfl)) ?_
      subst c0
      obtain ⟨w0, rfl, rfl⟩ := tm0 ht
      have h13 : (upd H2 A.pt (.lst (rs.map V.ref ++ [.ref pw]))) A.sa = some (.ins CS dx2 (sF A)) := by rw [upd_ne (ne_of h12 h2 (by intro z; cases z))]; exact h12
      refine ⟨_, rfl, A.sa, CS, dx2, _, _, rfl, h13, T_State.cl, T_State.nI, sF_inputs A, .inl ⟨rfl, _, .inl (.inl hpi)⟩, _, rfl, A.pi, _, _, rfl, rfl, hpi, ?_, ?_⟩
      · rw [lits_len, inIdx_len]
        exact lim_lt (Nat.le_trans (List.length_filterMap_le _ _) (by omega))
      · refine key _ ?_ _ _ _ _
        rw [inn, lits_app, List.length_map, rl]
        rfl
    · refine if_false_of (decide_eq_false (fun z => c0 (by injection z with z; omega))) ?_
      refine key _ ?_ _ _ _ _
      rw [inn, call0' ht c0, List.append_nil]
      exact (upd_self hpi).symm
end
end BC

set_option Elab.async false
set_option linter.all false
set_option maxRecDepth 100000
set_option maxHeartbeats 2000000
namespace BC
open PySem PySem.Spec PyProof.Rows L2
/-! ### classes made -/
structure DK (P : Program) (w : World) (K : PySem.W.Frag) (mg : Str → Option Value) (base : Heap) (C : Addr) (k : Nat) (x : Str) (sp : Sp) : Prop where
  ex : ∃ (f : Addr) (fd : FuncData) (ps : List Str), Mk K C f ∧ mg x = some (.ref C) ∧ Binds K fd ps [] ∧ FnOk P w K mg base CX0 k f fd ps sp
theorem pe_dk0 {X : Cx} {C : Addr} {k : Nat} {x : Str} {sp : Sp} {p pos : Pos} (D : DK X.prog X.w X.K X.mg X.base C k x sp) (hr : Room (k + 1) X.A) (hg : Gl X x := by rfl) (hdb : (x == ("__debug__" : Str)) = false := by decide) :
    PE X (.Call (.Name x p) [] [] pos) (tMake C sp [] E0 tNil) := by
  obtain ⟨f, fd, ps, M, hm, hb, F⟩ := D.ex
  exact pe_make0 M F hr hg hm hb .nil pass0 hdb
def spGInit (CG : Addr) : Sp := fun vs H Q _ => ∃ (p dx : Addr), vs = [.ref p] ∧ H p = some (.ins CG dx []) ∧
  ∀ (H' : Hp) (n k : Addr), GAt CG p n k H' [] → H n = none → H k = none → (∀ b o, H b = some o → b ≠ p → H' b = some o) → Q .non H'
theorem gF_new (n k : Addr) : putF "known" (.ref k) (putF "nodes" (.ref n) []) = gF n k := by
  show putF "known" (.ref k) [("nodes", .ref n)] = _
  unfold putF
  rw [if_neg (by decide +kernel)]
  rfl
def spSInit (CS CG : Addr) : Sp := fun vs H Q _ => ∃ (p dx : Addr), vs = [.ref p] ∧ H p = some (.ins CS dx []) ∧
  ∀ (H' : Hp) (A : Ad), A.sa = p → SAt CS CG A H' Sm03.init → (∀ b o, H b = some o → b ≠ p → A.Out b ∧ b ≠ A.k) → (∀ b o, H b = some o → b ≠ p → H' b = some o) → Q .non H'
def spPut (CS CG : Addr) : Sp := fun vs H Q _ => ∃ (A : Ad) (s : Sm03.St), vs = [.ref A.sa] ∧ SAt CS CG A H s ∧ s.marks.length < 8 ∧ ∀ H', SAt CS CG A H' ⟨s.now, s.now :: s.marks⟩ → KpS A H H' → (∀ o, H A.pt = some o → H' A.pt = some o) → Q .non H'
def spClaim (CS CG : Addr) : Sp := fun vs H Q _ => ∃ (A : Ad) (s : Sm03.St) (nn : Addr) (t : Nat), vs = [.ref A.sa, .ref nn] ∧ SAt CS CG A H s ∧ H nn = some (.lst (lits [t])) ∧ Ansd CS CG A H Q (Sm03.step s (.claim t))
def spMark (CS CG : Addr) : Sp := fun vs H Q _ => ∃ (A : Ad) (s : Sm03.St) (nn : Addr), vs = [.ref A.sa, .ref nn] ∧ SAt CS CG A H s ∧ Ansd CS CG A H Q (Sm03.step s .mark)
section
variable {CS CG : Addr} {A : Ad} {H H' : Hp} {s : Sm03.St}
theorem ansd_same {r : List Int} {Q : VK} (q : Ansd CS CG A H Q (s, r)) (hS : SAt CS CG A H s) {H1 : Hp} (s1 : Same H H1) {p : Addr} (hp : H1 p = none) : Q (.ref p) (upd H1 p (.lst (r.map V.int))) :=
  q p _ (hS.same (s1.trans (same_upd hp))) (KpS.same (s1.trans (same_upd hp))) (by obtain ⟨rs, h2, _⟩ := hS.terms; exact WKp.same h2 (s1.trans (same_upd hp))) (s1.free hp) upd_same
theorem WF.claim {d : Sm03.Stand} (h : WF d) {t : Nat} (ht : t < d.terms.length) (hw : Sm03.widthOf d.terms t = 1) (hl : ¬ 12 ≤ d.claims.length) : WF ⟨d.graph, d.terms, d.claims ++ [t]⟩ := by
  refine ⟨h.wl, h.tl, h.gl, h.il, h.iw, ?_, fun c hc => ?_, h.gd⟩
  · show (d.claims ++ [t]).length ≤ 12
    rw [List.length_append]
    show d.claims.length + 1 ≤ 12
    omega
  · rcases List.mem_append.mp hc with hc | hc
    · exact h.cw c hc
    · rw [List.mem_singleton] at hc
      subst hc
      exact ⟨ht, hw⟩
theorem SAt.claimed (h : SAt CS CG A H s) {t : Nat} (ht : t < s.now.terms.length) (hw : Sm03.widthOf s.now.terms t = 1) (hl : ¬ 12 ≤ s.now.claims.length) :
    SAt CS CG A (upd H A.pc (.lst (lits (s.now.claims ++ [t])))) ⟨⟨s.now.graph, s.now.terms, s.now.claims ++ [t]⟩, s.marks⟩ := by
  obtain ⟨dx, h1⟩ := h.ins
  obtain ⟨rs, h2, h3⟩ := h.terms
  obtain ⟨ms, h4, h5⟩ := h.marks
  obtain ⟨d11, d12, d13, d14⟩ := h.d1
  obtain ⟨d21, d22, d23, d24, d25, d26⟩ := h.d2
  refine ⟨⟨dx, ?_⟩, h.gat.updL h.claims d13, ⟨rs, ?_, h3.mono fun r xs o e => ?_⟩, ?_, upd_same, ⟨ms, ?_, h5.mono fun r xs e => ?_⟩, h.d1, h.d2, h.ml, h.ch.up (h.wf.claim ht hw hl) ⟨List.prefix_refl _, List.prefix_refl _, List.prefix_append _ _⟩⟩
  · rw [upd_ne (ne_of h1 h.claims (by intro z; cases z))]; exact h1
  · rw [upd_ne d22]; exact h2
  · rw [upd_ne o.pc]; exact e
  · rw [upd_ne d24]; exact h.inputs
  · rw [upd_ne d26.symm]; exact h4
  · rw [upd_ne (ne_of e h.claims (by intro z; cases z))]; exact e
theorem kps_pc {o : HO} : KpS A H (upd H A.pc o) := fun b x e ob _ => by rw [upd_ne ob.pc]; exact e
theorem kps_pm {o : HO} : KpS A H (upd H A.pm o) := fun b x e ob _ => by rw [upd_ne ob.pm]; exact e
theorem Mks.snoc {H : Hp} {rs : List Addr} {ds : List Sm03.Stand} {r : Addr} {d : Sm03.Stand} (h : Mks H rs ds) (hr : H r = some (.tup (mk4 d))) : Mks H (rs ++ [r]) (ds ++ [d]) := by
  induction h with
  | nil => exact .cons hr .nil
  | cons hh _ ih => exact .cons hh ih
theorem SAt.marked (h : SAt CS CG A H s) (hl : s.marks.length < 8) {rs : List Addr} {T : Addr} (hrs : H A.pm = some (.lst (rs.map V.ref))) (hm : Mks H rs s.marks.reverse) (hT : H T = some (.tup (mk4 s.now))) :
    SAt CS CG A (upd H A.pm (.lst (rs.map V.ref ++ [.ref T]))) ⟨s.now, s.now :: s.marks⟩ := by
  obtain ⟨dx, h1⟩ := h.ins
  obtain ⟨ts, h2, h3⟩ := h.terms
  obtain ⟨d11, d12, d13, d14⟩ := h.d1
  obtain ⟨d21, d22, d23, d24, d25, d26⟩ := h.d2
  have tup : ∀ {r : Addr} {xs : List V}, H r = some (.tup xs) → (upd H A.pm (.lst (rs.map V.ref ++ [.ref T]))) r = some (.tup xs) := fun e => by
    rw [upd_ne (ne_of e hrs (by intro z; cases z))]
    exact e
  refine ⟨⟨dx, ?_⟩, h.gat.updL hrs d14, ⟨ts, ?_, h3.mono fun r xs o e => ?_⟩, ?_, ?_, ⟨rs ++ [T], ?_, ?_⟩, h.d1, h.d2, Nat.succ_le_of_lt hl, .cons h.wf (Onto.refl _) h.ch⟩
  · rw [upd_ne (ne_of h1 hrs (by intro z; cases z))]; exact h1
  · rw [upd_ne d23]; exact h2
  · rw [upd_ne o.pm]; exact e
  · rw [upd_ne d25]; exact h.inputs
  · rw [upd_ne d26]; exact h.claims
  · rw [upd_same, List.map_append]; rfl
  · show Mks _ (rs ++ [T]) (s.now :: s.marks).reverse
    rw [List.reverse_cons]
    exact (hm.mono fun r xs e => tup e).snoc (tup hT)
end
theorem kps_free {CS CG : Addr} {A : Ad} {H H1 : Hp} {s : Sm03.St} (k : KpS A H H1) (h : SAt CS CG A H1 s) {p : Addr} (hp : H1 p = none) : H p = none := by
  cases e : H p with
  | none => rfl
  | some o =>
    rw [k p o e (h.freshOut hp) (h.gat.fresh_k hp)] at hp
    cases hp
end BC

set_option Elab.async false
set_option linter.all false
set_option maxRecDepth 100000
set_option maxHeartbeats 2000000
namespace BC
open PySem PySem.Spec PyProof.Rows L2
section
variable {P : Program} {w : World} {K : PySem.W.Frag} {mg : Str → Option Value} {base : Heap} {CG CS CW : Addr} {f : Addr} {fd : FuncData}
abbrev s_GatesI_initI : Stmt := inClass (top 25) 0
abbrev N_GatesI_initI : List Str := ["self"]
theorem sc_GatesI_initI : FnScope N_GatesI_initI ["self"] (defScope s_GatesI_initI) := ⟨rfl, rfl, rfl, by decide +kernel, rfl, by decide +kernel, by decide +kernel⟩
theorem ok_GatesI_initI (F : Fun K "__init__" "Gates.__init__" s_GatesI_initI f fd) (T_Gates : TGates K CG) : FnOk P w K mg base CX0 1 f fd ["self"] (spGInit CG) := by
  refine F.ok sc_GatesI_initI (fun vs H Q E h => ?_) (fun cdv A outer s H vs Q E hr h => ?_)
  · obtain ⟨_, _, rfl, _⟩ := h
    rfl
  · obtain ⟨p, dx, rfl, hp, q⟩ := h
    have hu := hu_of hr
    refine ⟨_, (pss_cons (ps_fld (pv 0) (pe_lst pa_nil) rfl)
      (pss_one (ps_fld (pv 0) pe_dnewT rfl))), ?_⟩
    refine ⟨Nat.zero_le _, fun n hn => ?_⟩
    have s1 := same_upd (o := .lst []) hn
    refine ⟨_, rfl, p, CG, dx, [], rfl, s1 _ _ hp, T_Gates.cl, T_Gates.nN, (by show 0 < 1000; decide), ?_⟩
    have pn : p ≠ n := ne_of_none hp hn
    intro k hk
    obtain ⟨hk1, kp⟩ := free_upd hk
    obtain ⟨hk2, kn⟩ := free_upd hk1
    refine ⟨_, rfl, p, CG, dx, putF "nodes" (.ref n) [], rfl, ?_, T_Gates.cl, T_Gates.nK, (by show 1 < 1000; decide), ?_⟩
    · rw [upd_ne kp.symm]; exact upd_same
    refine q _ n k ⟨⟨dx, ?_⟩, ⟨[], ?_, .nil⟩, ?_, List.Pairwise.nil⟩ hn hk2 fun b o e bp => ?_
    · rw [upd_same, gF_new]
    · rw [upd_ne pn.symm, upd_ne kn.symm, upd_ne pn.symm]; exact upd_same
    · rw [upd_ne kp]; exact upd_same
    · rw [upd_ne bp, upd_ne (ne_of_none e hk2), upd_ne bp, upd_ne (ne_of_none e hn)]
      exact e

abbrev s_State_put_mark : Stmt := inClass (top 101) 4
abbrev N_State_put_mark : List Str := ["self"]
theorem sc_State_put_mark : FnScope N_State_put_mark ["self"] (defScope s_State_put_mark) := ⟨rfl, rfl, rfl, by decide +kernel, rfl, by decide +kernel, by decide +kernel⟩
theorem ok_State_put_mark (F : Fun K "put_mark" "State.put_mark" s_State_put_mark f fd) (T_State : TState K CS) (D_size : DM P w K mg base CG 1 "size" (spSize CG)) (b_len : mg "len" = none) : FnOk P w K mg base CX0 2 f fd ["self"] (spPut CS CG) := by
  refine F.ok sc_State_put_mark (fun vs H Q E h => ?_) (fun cdv A outer s H vs Q E hr h => ?_)
  · obtain ⟨_, _, rfl, _⟩ := h
    rfl
  · obtain ⟨A, s, rfl, hS, hl, q⟩ := h
    obtain ⟨dx, h1⟩ := hS.ins
    obtain ⟨dg, hg⟩ := hS.gat.ins
    obtain ⟨ts, h2, h3⟩ := hS.terms
    obtain ⟨ms, h4, h5⟩ := hS.marks
    have hu := hu_of hr
    refine ⟨_, (pss_one (ps_expr (pe_bm PySem.F.plainAttrs_list PySem.F.slot_list_append PySem.F.type_list_append mt_append (pe_fld (pv 0) rfl) (pa_cons (pe_tup (pa_cons (pe_callB call_len_seq (by rfl) b_len PySem.boot_len (pa_cons (pe_fld (pv 0) rfl) pa_nil)) (pa_cons (pe_callB call_len_seq (by rfl) b_len PySem.boot_len (pa_cons (pe_fld (pv 0) rfl) pa_nil)) (pa_cons (pe_callB call_len_seq (by rfl) b_len PySem.boot_len (pa_cons (pe_fld (pv 0) rfl) pa_nil)) (pa_cons (pe_dm0 (pe_fld (pv 0) rfl) D_size hr) pa_nil))))) pa_nil)))), ?_⟩
    have hL : (100 : Nat) ≤ LIM := by decide
    have ml : ms.length = s.marks.length := by rw [h5.len, List.length_reverse]
    refine ⟨_, rfl, A.sa, CS, dx, _, _, rfl, h1, T_State.cl, T_State.nM, sF_marks A, .inl ⟨rfl, _, .inl (.inl h4)⟩, ?_⟩
    refine ⟨_, rfl, A.sa, CS, dx, _, _, rfl, h1, T_State.cl, T_State.nT, sF_terms A, A.pt, _, rfl, .inl (.inl (.inl h2)), ?_⟩
    refine ⟨_, rfl, A.sa, CS, dx, _, _, rfl, h1, T_State.cl, T_State.nI, sF_inputs A, A.pi, _, rfl, .inl (.inl (.inl hS.inputs)), ?_⟩
    refine ⟨_, rfl, A.sa, CS, dx, _, _, rfl, h1, T_State.cl, T_State.nC, sF_claims A, A.pc, _, rfl, .inl (.inl (.inl hS.claims)), ?_⟩
    refine ⟨_, rfl, A.sa, CS, dx, _, _, rfl, h1, T_State.cl, T_State.nG, sF_gates A, A.ga, dg, _, rfl, hg, by rfl, A.ga, A.n, A.k, _, rfl, hS.gat, (by show 4 ≤ sizeLine; decide), fun T hT => ?_⟩
    have e4 : [V.int (((ts.map V.ref).length : Nat) : Int), V.int (((lits (inIdx 0 s.now.terms)).length : Nat) : Int), V.int (((lits s.now.claims).length : Nat) : Int), V.int ((s.now.graph.length : Nat) : Int)] = mk4 s.now := by
      rw [List.length_map, h3.len, lits_len, lits_len, inIdx_len]
      rfl
    rw [e4]
    have sT := same_upd (o := .tup (mk4 s.now)) hT
    refine ⟨A.pm, _, _, rfl, rfl, sT _ _ h4, lim_lt (by rw [List.length_map, ml]; omega), ?_⟩
    exact q _ ((hS.same sT).marked hl (sT _ _ h4) (h5.mono fun r xs e => sT _ _ e) upd_same) ((KpS.same sT).trans kps_pm) fun o e => by rw [upd_ne hS.d2.2.2.1]; exact sT _ _ e

abbrev s_answer_of_claim : Stmt := top 105
abbrev N_answer_of_claim : List Str := ["state", "numbers", "name"]
theorem sc_answer_of_claim : FnScope N_answer_of_claim ["state", "numbers"] (defScope s_answer_of_claim) := ⟨rfl, rfl, rfl, by decide +kernel, rfl, by decide +kernel, by decide +kernel⟩
theorem ok_answer_of_claim (F : Fun K "answer_of_claim" "answer_of_claim" s_answer_of_claim f fd) (D_has : DM P w K mg base CS 1 "has" (spHas CS CG)) (g_NO_TERM : GI mg "NO_TERM" (-2)) (D_width : DM P w K mg base CS 1 "width" (spWidth CS CG)) (g_UNFIT : GI mg "UNFIT" (-1)) (b_len : mg "len" = none) (T_State : TState K CS) (g_MOST_CLAIMS : GI mg "MOST_CLAIMS" 12) (g_FULL : GI mg "FULL" (-5)) : FnOk P w K mg base CX0 2 f fd ["state", "numbers"] (spClaim CS CG) := by
  refine F.ok sc_answer_of_claim (fun vs H Q E h => ?_) (fun cdv A outer s H vs Q E hr h => ?_)
  · obtain ⟨_, _, _, _, rfl, _⟩ := h
    rfl
  · obtain ⟨A, s, nn, t, rfl, hS, hn, q⟩ := h
    obtain ⟨dx, h1⟩ := hS.ins
    have q : Ansd CS CG A H Q (if Sm03.there s.now.terms t = false then (s, [-2]) else if Sm03.widthOf s.now.terms t ≠ 1 then (s, [-1]) else if 12 ≤ s.now.claims.length then (s, [-5]) else (⟨⟨s.now.graph, s.now.terms, s.now.claims ++ [t]⟩, s.marks⟩, [((s.now.claims.length + 1 : Nat) : Int)])) := q
    have hu := hu_of hr
    refine ⟨_, (pss_cons (ps_set (i := 2) sc_answer_of_claim.nd rfl (Or.inl rfl) (pe_ix ix_list (pv 1) pe_int (fun _ _ => rfl)))
      (pss_cons (ps_if (pt_not (pt_val (pe_dm (pv 0) D_has hr (pa_cons (pv 2) pa_nil))))
      (pss_one (ps_ret (pe_lst (pa_cons (pe_gi g_NO_TERM) pa_nil))))
      pss_nil)
      (pss_cons (ps_if (pt_cmpR op_ne (pe_dm (pv 0) D_width hr (pa_cons (pv 2) pa_nil)) pe_int (nomark _))
      (pss_one (ps_ret (pe_lst (pa_cons (pe_gi g_UNFIT) pa_nil))))
      pss_nil)
      (pss_cons (ps_if (pt_cmpR op_ge (pe_callB call_len_seq (by rfl) b_len PySem.boot_len (pa_cons (pe_fld (pv 0) rfl) pa_nil)) (pe_gi g_MOST_CLAIMS) (nomark _))
      (pss_one (ps_ret (pe_lst (pa_cons (pe_gi g_FULL) pa_nil))))
      pss_nil)
      (pss_cons (ps_expr (pe_bm PySem.F.plainAttrs_list PySem.F.slot_list_append PySem.F.type_list_append mt_append (pe_fld (pv 0) rfl) (pa_cons (pv 2) pa_nil)))
      (pss_one (ps_ret (pe_lst (pa_cons (pe_callB call_len_seq (by rfl) b_len PySem.boot_len (pa_cons (pe_fld (pv 0) rfl) pa_nil)) pa_nil))))))))), ?_⟩
    have cl := hS.wf.cl
    have hL : (100 : Nat) ≤ LIM := by decide
    refine ⟨_, rfl, nn, _, _, _, rfl, rfl, .inl (.inl hn), at0 _ _, ?_⟩
    refine ⟨_, rfl, A.sa, dx, _, rfl, h1, by rfl, _, rfl, A, s, t, rfl, hS, _, rfl, ?_⟩
    by_cases c1 : ¬ t < s.now.terms.length
    · refine if_true_of (by rw [decide_eq_false c1]; rfl) ?_
      rw [if_pos (th_f c1)] at q
      exact ⟨(by show 1 ≤ sizeLine; decide), fun p hp => ansd_same q hS (Same.refl H) hp⟩
    replace c1 := Decidable.not_not.mp c1
    refine if_false_of (by rw [decide_eq_true c1]; rfl) ?_
    rw [if_neg (by rw [th_t c1]; exact Bool.noConfusion)] at q
    refine ⟨_, rfl, A.sa, dx, _, rfl, h1, by rfl, _, rfl, A, s, t, rfl, hS, c1, rfl, _, rfl, ?_⟩
    by_cases c2 : ¬ Sm03.widthOf s.now.terms t = 1
    · refine if_true_of (by rw [decide_eq_false (fun z => c2 (by injection z with z; omega))]; rfl) ?_
      rw [if_pos c2] at q
      exact ⟨(by show 1 ≤ sizeLine; decide), fun p hp => ansd_same q hS (Same.refl H) hp⟩
    replace c2 := Decidable.not_not.mp c2
    refine if_false_of (by rw [c2]; rfl) ?_
    rw [if_neg (fun z => z c2)] at q
    refine ⟨_, rfl, A.sa, CS, dx, _, _, rfl, h1, T_State.cl, T_State.nC, sF_claims A, A.pc, _, rfl, .inl (.inl (.inl hS.claims)), _, _, rfl, rfl, _, rfl, ?_⟩
    by_cases c3 : 12 ≤ s.now.claims.length
    · refine if_true_of (decide_eq_true (by rw [lits_len]; omega)) ?_
      rw [if_pos c3] at q
      exact ⟨(by show 1 ≤ sizeLine; decide), fun p hp => ansd_same q hS (Same.refl H) hp⟩
    refine if_false_of (decide_eq_false (by rw [lits_len]; omega)) ?_
    rw [if_neg c3] at q
    refine ⟨_, rfl, A.sa, CS, dx, _, _, rfl, h1, T_State.cl, T_State.nC, sF_claims A, .inl ⟨rfl, _, .inl (.inl hS.claims)⟩, _, rfl, A.pc, _, _, rfl, rfl, hS.claims, lim_lt (by rw [lits_len]; omega), ?_⟩
    rw [show lits s.now.claims ++ [V.int (t : Int)] = lits (s.now.claims ++ [t]) by rw [lits_app]; rfl]
    have hS2 := hS.claimed c1 c2 c3
    obtain ⟨dx2, h12⟩ := hS2.ins
    refine ⟨_, rfl, A.sa, CS, dx2, _, _, rfl, h12, T_State.cl, T_State.nC, sF_claims A, A.pc, _, rfl, .inl (.inl (.inl upd_same)), (by show 1 ≤ sizeLine; decide), fun p hp => ?_⟩
    have e5 : ((lits (s.now.claims ++ [t])).length : Nat) = s.now.claims.length + 1 := by rw [lits_len, List.length_append]; rfl
    rw [e5]
    obtain ⟨rs0, h20, _⟩ := hS.terms
    exact q p _ (hS2.same (same_upd hp)) (kps_pc.trans (KpS.same (same_upd hp))) (WKp.of h20 (same_upd hp _ _ (by rw [upd_ne hS.d2.2.1]; exact h20))) (free_upd hp).1 upd_same

abbrev s_answer_of_mark : Stmt := top 106
abbrev N_answer_of_mark : List Str := ["state", "numbers"]
theorem sc_answer_of_mark : FnScope N_answer_of_mark ["state", "numbers"] (defScope s_answer_of_mark) := ⟨rfl, rfl, rfl, by decide +kernel, rfl, by decide +kernel, by decide +kernel⟩
theorem ok_answer_of_mark (F : Fun K "answer_of_mark" "answer_of_mark" s_answer_of_mark f fd) (b_len : mg "len" = none) (T_State : TState K CS) (g_MOST_MARKS : GI mg "MOST_MARKS" 8) (g_FULL : GI mg "FULL" (-5)) (D_put_mark : DM P w K mg base CS 2 "put_mark" (spPut CS CG)) : FnOk P w K mg base CX0 3 f fd ["state", "numbers"] (spMark CS CG) := by
  refine F.ok sc_answer_of_mark (fun vs H Q E h => ?_) (fun cdv A outer s H vs Q E hr h => ?_)
  · obtain ⟨_, _, _, rfl, _⟩ := h
    rfl
  · obtain ⟨A, s, nn, rfl, hS, q⟩ := h
    obtain ⟨dx, h1⟩ := hS.ins
    obtain ⟨ms, h4, h5⟩ := hS.marks
    have q : Ansd CS CG A H Q (if 8 ≤ s.marks.length then (s, [-5]) else (⟨s.now, s.now :: s.marks⟩, [((s.marks.length + 1 : Nat) : Int)])) := q
    have hu := hu_of hr
    refine ⟨_, (pss_cons (ps_if (pt_cmpR op_ge (pe_callB call_len_seq (by rfl) b_len PySem.boot_len (pa_cons (pe_fld (pv 0) rfl) pa_nil)) (pe_gi g_MOST_MARKS) (nomark _))
      (pss_one (ps_ret (pe_lst (pa_cons (pe_gi g_FULL) pa_nil))))
      pss_nil)
      (pss_cons (ps_expr (pe_dm0 (pv 0) D_put_mark hr))
      (pss_one (ps_ret (pe_lst (pa_cons (pe_callB call_len_seq (by rfl) b_len PySem.boot_len (pa_cons (pe_fld (pv 0) rfl) pa_nil)) pa_nil)))))), ?_⟩
    have ml : ms.length = s.marks.length := by rw [h5.len, List.length_reverse]
    refine ⟨_, rfl, A.sa, CS, dx, _, _, rfl, h1, T_State.cl, T_State.nM, sF_marks A, A.pm, _, rfl, .inl (.inl (.inl h4)), _, _, rfl, rfl, _, rfl, ?_⟩
    by_cases c1 : 8 ≤ s.marks.length
    · refine if_true_of (decide_eq_true (by rw [List.length_map, ml]; omega)) ?_
      rw [if_pos c1] at q
      exact ⟨(by show 1 ≤ sizeLine; decide), fun p hp => ansd_same q hS (Same.refl H) hp⟩
    refine if_false_of (decide_eq_false (by rw [List.length_map, ml]; omega)) ?_
    rw [if_neg c1] at q
    refine ⟨_, rfl, A.sa, dx, _, rfl, h1, by rfl, A, s, rfl, hS, by omega, fun H1 hS1 k1 e1 => ?_⟩
    obtain ⟨dx1, h11⟩ := hS1.ins
    obtain ⟨ns, h41, h51⟩ := hS1.marks
    refine ⟨_, rfl, A.sa, CS, dx1, _, _, rfl, h11, T_State.cl, T_State.nM, sF_marks A, A.pm, _, rfl, .inl (.inl (.inl h41)), (by show 1 ≤ sizeLine; decide), fun p hp => ?_⟩
    have nl : ns.length = s.marks.length + 1 := by rw [h51.len, List.length_reverse]; rfl
    rw [List.length_map, nl]
    have pf : H p = none := kps_free k1 hS1 hp
    obtain ⟨rs0, h20, _⟩ := hS.terms
    exact q p _ (hS1.same (same_upd hp)) (k1.trans (KpS.same (same_upd hp))) (WKp.of h20 (same_upd hp _ _ (e1 _ h20))) pf upd_same
end
end BC

set_option Elab.async false
set_option linter.all false
set_option maxRecDepth 100000
set_option maxHeartbeats 2000000
namespace BC
open PySem PySem.Spec PyProof.Rows L2
/-! ### what the top has written -/
structure DefAt (K : PySem.W.Frag) (x qual : Str) (st : Stmt) (f : Addr) : Prop where
  def_ : ∃ fd, Fun K x qual st f fd
theorem defAt_mk {K : PySem.W.Frag} {x qual : Str} {st : Stmt} {f : Addr} {oc : Value} {od an : Option Addr} {osl : Array (Option Value)} {kV doc pm cdv ct : Value} (l : K.lookup f = some ⟨oc, od, .func (PySem.W.fnOf x qual (defArgs st) (defBody st) (defScope st) .none kV doc pm an cdv ct), osl⟩)
    (c : PySem.W.codeIn K cdv qual = true) (k : PySem.W.keepIn K (.ref f) = true) : DefAt K x qual st f := ⟨_, fun_mk l c k⟩
structure TupAt (K : PySem.W.Frag) (t : Addr) (its : Array Value) : Prop where
  at_ : ∃ od n sl, K.lookup t = some ⟨.type "tuple", od, .seq its n, sl⟩
theorem tupAt_mk {K : PySem.W.Frag} {t : Addr} {its : Array Value} {od : Option Addr} {n : Nat} {sl : Array (Option Value)} (l : K.lookup t = some ⟨.type "tuple", od, .seq its n, sl⟩) : TupAt K t its := ⟨od, n, sl, l⟩
theorem TupAt.tup {K : PySem.W.Frag} {t : Addr} {its : Array Value} {vs : List V} (h : TupAt K t its) (v : Vals vs its.toList) (z : its.size ≤ sizeLine) : TupK K t vs := by
  obtain ⟨od, n, sl, l⟩ := h.at_
  exact fun H => .inr ⟨_, its, n, l, rfl, rfl, z, v⟩
structure TupI (K : PySem.W.Frag) (t : Addr) (ns : List Nat) : Prop where
  tup : TupK K t (lits ns)
theorem tupI_mk {K : PySem.W.Frag} {t : Addr} {its : Array Value} {ns : List Nat} {od : Option Addr} {n : Nat} {sl : Array (Option Value)} (l : K.lookup t = some ⟨.type "tuple", od, .seq its n, sl⟩) (v : Vals (lits ns) its.toList) (hz : ns.length ≤ 100 := by decide) : TupI K t ns := by
  have z : its.size ≤ sizeLine := by
    have e := v.length
    rw [lits_len, Array.length_toList] at e
    exact Nat.le_trans (Nat.le_of_eq e.symm) (Nat.le_trans hz (by decide))
  exact ⟨fun H => .inr ⟨_, its, n, l, rfl, rfl, z, v⟩⟩
theorem rr {a : Addr} : RelV (.ref a) (.ref a) := rfl
theorem unfit1_of {CS CG : Addr} {c : Nat} (hc : c = 2 ∨ c = 3) (vs : List V) (H : Hp) (Q : VK) (E : XK) (h : spUnfit CS CG c vs H Q E) : spUnfit1 CS CG vs H Q E := by
  obtain ⟨A, s, nn, nums, t, e, hS, hn, ht, h2, q⟩ := h
  refine ⟨A, s, nn, nums, t, e, hS, hn, ?_, h2, q⟩
  rcases hc with rfl | rfl
  · exact .inl ht
  · exact .inr ht
theorem unfitW_of {CS CG : Addr} {c : Nat} (hc : c = 7 ∨ c = 8) (vs : List V) (H : Hp) (Q : VK) (E : XK) (h : spUnfit CS CG c vs H Q E) : spUnfitW CS CG vs H Q E := by
  obtain ⟨A, s, nn, nums, t, e, hS, hn, ht, h2, q⟩ := h
  rcases hc with rfl | rfl
  · obtain ⟨a, w, rfl, rfl⟩ := tm7 ht
    exact ⟨A, s, nn, _, a, w, false, e, hS, hn, rfl, h2, q⟩
  · obtain ⟨a, w, rfl, rfl⟩ := tm8 ht
    exact ⟨A, s, nn, _, a, w, true, e, hS, hn, rfl, h2, q⟩
end BC

set_option Elab.async false
set_option linter.all false
set_option maxRecDepth 100000
set_option maxHeartbeats 2000000
namespace BC
open PySem PySem.Spec PyProof.Rows L2
/-! ### dict(zip(a, b)) of two lists -/
def tDictZip (K : PySem.W.Frag) (ta : TA) : TE := fun σ H Q => ta σ H fun vs H1 => ∃ (a b : Addr) (kvs : List (Key × V)), vs = [.ref a, .ref b] ∧ SqL K H1 a (kvs.map fun kv => kV kv.1) ∧ SqL K H1 b (kvs.map fun kv => kv.2) ∧
  ∀ p, H1 p = none → Q (.ref p) (upd H1 p (.dK (mergeK [] kvs)))
theorem zip_rel {P : Program} {w : World} : ∀ {kvs : List (Key × V)} {us vs : List Value}, Vals (kvs.map fun kv => kV kv.1) us → Vals (kvs.map fun kv => kv.2) vs →
    ∃ prs : List (Key × Value), KV kvs prs ∧ prs.length = us.length ∧ us.length = vs.length ∧ ∀ (i : Nat) (k v : Value), us[i]? = some k → vs[i]? = some v → ∃ q, prs[i]? = some (q, v) ∧ (mixKind P w).is q k = true
  | [], us, vs, r1, r2 => by
    cases r1
    cases r2
    exact ⟨[], .nil, rfl, rfl, fun i k v e => by cases e⟩
  | kv :: r, us, vs, r1, r2 => by
    cases r1 with
    | cons a1 t1 =>
      cases r2 with
      | cons a2 t2 =>
        rename_i u us' v vs'
        obtain ⟨prs, e1, e2, e3, e4⟩ := zip_rel (P := P) (w := w) t1 t2
        refine ⟨(kv.1, v) :: prs, .cons ⟨rfl, a2⟩ e1, by rw [List.length_cons, List.length_cons, e2], by rw [List.length_cons, List.length_cons, e3], fun i k x hk hx => ?_⟩
        cases i with
        | zero =>
          injection hk with hk
          injection hx with hx
          subst hk hx
          exact ⟨kv.1, rfl, kV_is a1⟩
        | succ i =>
          obtain ⟨q, h1, h2⟩ := e4 i k x hk hx
          exact ⟨q, h1, h2⟩
theorem pe_dictZip {X : Cx} {e e2 : Expr} {ta : TA} {p p2 pos pos2 : Pos} (hg : Gl X "dict") (hm : X.mg "dict" = none) (hg2 : Gl X "zip") (hm2 : X.mg "zip" = none) (ha : PA X [e, e2] ta) (hcalm : X.calm = true := by rfl)
    (hs : starEach [e, e2] X.env = (false, eval e X.env) :: starEach [e2] X.env := by rfl) (hpl : (backTo pos2 (starEach [e2] X.env)).any (·.1) = false := by rfl) 
    (hs2 : starEach [.Call (.Name "zip" p2) [e, e2] [] pos2] X.env = (false, eval (.Call (.Name "zip" p2) [e, e2] [] pos2) X.env) :: starEach [] X.env := by rfl)
    (hb : backTo pos (starEach [.Call (.Name "zip" p2) [e, e2] [] pos2] X.env) = [(false, eval (.Call (.Name "zip" p2) [e, e2] [] pos2) X.env)] := by rfl) :
    PE X (.Call (.Name "dict" p) [.Call (.Name "zip" p2) [e, e2] [] pos2] [] pos) (tDictZip X.K ta) := by
  refine ⟨fun pins s σ H Q I h => ?_⟩
  refine wpAny_Call_Name_kw (ld_blt I hg hm PyProof.Rows.boot_dict ?_)
  refine PyProof.Rows.callWith_type1 ?_ hs2 (by rfl)
  rw [hb]
  refine Calls.spliced_cons ?_
  refine wpAny_Call_Name_kw (ld_blt I hg2 hm2 PyProof.Rows.boot_zip ?_)
  refine PyProof.Rows.callWith_type1 (thn (ha.run pos2 pins s σ H _ I h) fun us s1 ⟨vs, H1, I1, r1, q1⟩ => ?_) hs hpl
  obtain ⟨a, b, kvs, ex, hqx, hqy, q⟩ := q1
  subst ex
  cases r1 with
  | cons r rr =>
    cases rr with
    | cons r' rr =>
      cases rr
      cases r
      cases r'
      obtain ⟨its, rv, p1, z1⟩ := I1.list hqx
      obtain ⟨its2, rv2, p2, z2⟩ := I1.list hqy
      have la : a < s1.heap.objs.size := p1.lt
      have lb : b < s1.heap.objs.size := p2.lt
      refine call_zip_2 p1.isList p2.isList fun h' hz hTI hTO h1 h2 hsz hk => Calls.spliced_nil ?_
      have I2 : Inv X pins σ H1 { s1 with heap := h' } := I1.kept (t' := s1.toks) hk
      obtain ⟨prs, e1, e2, e3, e4⟩ := zip_rel (P := X.prog) (w := X.w) rv rv2
      rw [List.length_map] at z1
      have hl : its.toArray.size = prs.length := by
        rw [e2]; rfl
      have hl2 : its2.toArray.size = its.toArray.size := e3.symm
      have hkl : kvs.length = prs.length := e1.length
      refine PySem.call_dict_pairs (knd := mixKind X.prog X.w) (kvs := prs) (PairArg.zip (s1.heap.objs.size + 4) (s1.heap.objs.size + 2) (s1.heap.objs.size + 3) s1.heap.objs.size (s1.heap.objs.size + 1) a b (PySem.W.ktu_apart s1.heap.objs.size a b la lb) its.toArray its2.toArray)
        (I.ok.hd hcalm) ⟨hz, hTI, ⟨_, _, hTO⟩, h1, h2, p1.isList.at fun o e => hk _ _ e, p2.isList.at fun o e => hk _ _ e⟩ ⟨by rw [hl2, Nat.min_self, hl], fun i k v he => ?_⟩ (by rw [hl2, Nat.min_self, hl]; omega) fun h'' tk hd' hk' => ?_
      · obtain ⟨q', h3, h4⟩ := e4 i k v (by simpa using he.1) (by simpa using he.2)
        exact ⟨q', h3, h4⟩
      · have hlen : (mergeK [] kvs).length ≤ sizeLine := by
          refine Nat.le_trans (length_mergeK kvs []) ?_
          rw [List.length_nil, Nat.zero_add]
          omega
        have big : sysModules < h'.objs.size := I2.big
        have hm' : (h'.objs.size == sysModules) = false := beq_eq_false_iff_ne.mpr (Nat.ne_of_gt big)
        have hnin : ∀ {c : Addr} {o : Obj}, s1.heap.get? c = some o → c ∉ [s1.heap.objs.size + 4, s1.heap.objs.size + 3, s1.heap.objs.size, s1.heap.objs.size + 1] := fun {c o} ec hc => by
          have := Heap.lt_size ec
          simp only [List.mem_cons, List.not_mem_nil, or_false] at hc
          have lt : c < s1.heap.objs.size := this
          rcases hc with e | e | e | e
          · exact Nat.ne_of_lt (Nat.lt_add_right 4 lt) e
          · exact Nat.ne_of_lt (Nat.lt_add_right 3 lt) e
          · exact Nat.ne_of_lt lt e
          · exact Nat.ne_of_lt (Nat.lt_add_right 1 lt) e
        have kk : ∀ c o, s1.heap.get? c = some o → h''.get? c = some o := fun c o ec => hk' c o (hnin ec) (hk c o ec)
        have hfresh : s1.heap.objs.size ≤ h'.objs.size := by omega
        refine ⟨.ref h'.objs.size, upd H1 h'.objs.size (.dK (mergeK [] kvs)), I1.laid (t' := tk) kk hfresh (show ObjOk X.prog X.w _ _ _ (.dK (mergeK [] kvs)) from ⟨hlen, hm', merged [] prs, KV.merge e1 .nil, hd'⟩), rfl, q _ (I1.hok.fresh hfresh)⟩
end BC

set_option Elab.async false
set_option linter.all false
set_option maxRecDepth 100000
set_option maxHeartbeats 2000000
namespace BC
open PySem PySem.Spec PyProof.Rows L2
theorem pe_dk {X : Cx} {C : Addr} {k : Nat} {x : Str} {sp : Sp} {p pos : Pos} {e : Expr} {es : List Expr} {t : TA} (D : DK X.prog X.w X.K X.mg X.base C k x sp) (hr : Room (k + 1) X.A) (ha : PA X (e :: es) t) (hg : Gl X x := by rfl) (hdb : (x == ("__debug__" : Str)) = false := by decide)
    (he : starEach (e :: es) X.env = (false, eval e X.env) :: starEach es X.env := by rfl) (hpl : (backTo pos (starEach es X.env)).any (·.1) = false := by rfl) :
    PE X (.Call (.Name x p) (e :: es) [] pos) (tMake C sp [] E0 t) := by
  obtain ⟨f, fd, ps, M, hm, hb, F⟩ := D.ex
  exact pe_make M F hr hg hm hb .nil pass0 ha hdb he hpl
/-! ### comprehensions that only add objects -/
section
variable {J : It} {n : Nat} {G : Hp → Prop} {Y : Nat → Hp → V → Hp → Prop} {g : TG} {tt : TT} {te : TE} {vs : List Nat} {σ : L2.St} {H : Hp} {D : Addr} {Qd : Hp → Prop}
theorem lc_map (w : Walk J n G Y) (L : List V) (hL : L.length = n) (hn : n ≤ LIM) (hD : H D = none) (hG : ∀ H1, Same H H1 → G H1)
    (turn : ∀ i x H1 H2 y, i < n → Same H H1 → Y i H1 x H2 → L[i]? = some y → ∀ (R : V → Hp → Prop) (N : Hp → Prop), (∀ H5, Same H1 H5 → R y H5) →
      g x (wipe σ vs) H2 fun σ2 H3 => wipe σ2 vs = wipe σ vs ∧ tt σ2 H3 fun b H4 => if b = true then te σ2 H4 R else N H4)
    (fin : ∀ H1, Same H H1 → H1 D = some (.lst L) → Qd H1) :
    ∃ W : Nat → Nat → Hp → Prop, (∃ m, W 0 m (upd H D (.lst []))) ∧ ∀ i m H, W i m H →
      (J.stop i H ∧ Qd H) ∨ (J.go i H ∧ ∃ Nx : Hp → Prop, (∀ H', Nx H' → ∃ m', m' < m ∧ W (i + 1) m' H') ∧ ∀ x H', J.yld i H x H' → g x (wipe σ vs) H' fun σ2 H2 => wipe σ2 vs = wipe σ vs ∧ tt σ2 H2 fun b H3 =>
        if b = true then te σ2 H3 fun y H4 => ∃ acc, H4 D = some (.lst acc) ∧ acc.length < sizeLine ∧ Nx (upd H4 D (.lst (acc ++ [y]))) else Nx H3) := by
  refine lc_it w (fun i H1 => Same H H1 ∧ H1 D = some (.lst (L.take i))) ⟨same_upd hD, by rw [upd_same, List.take_zero]⟩ (fun i H1 _ h => hG H1 h.1) (fun i x H1 H2 hi ⟨s1, e1⟩ y => ?_) (fun H1 ⟨s1, e1⟩ => fin H1 s1 (by rw [e1, List.take_of_length_le (by omega)]))
  have hy : L[i]? = some (L[i]'(by omega)) := List.getElem?_eq_getElem (by omega)
  refine turn i x H1 H2 _ hi s1 y hy _ _ fun H5 s5 => ⟨L.take i, s5 _ _ e1, lim_lt (by rw [List.length_take]; omega), same_updN (s1.trans s5) hD, ?_⟩
  rw [upd_same, List.take_add_one, hy]
  rfl
theorem lc_gen (w : Walk J n G Y) (p : Nat → Bool) (f : Nat → V) (hn : n ≤ LIM) (hD : H D = none) (hG : ∀ H1, Same H H1 → G H1)
    (turn : ∀ i x H1 H2, i < n → Same H H1 → Y i H1 x H2 → ∀ (R : V → Hp → Prop) (N : Hp → Prop), (∀ H5, Same H1 H5 → p i = true → R (f i) H5) → (∀ H5, Same H1 H5 → p i = false → N H5) →
      g x (wipe σ vs) H2 fun σ2 H3 => wipe σ2 vs = wipe σ vs ∧ tt σ2 H3 fun b H4 => if b = true then te σ2 H4 R else N H4)
    (fin : ∀ H1, Same H H1 → H1 D = some (.lst (((List.range n).filter p).map f)) → Qd H1) :
    ∃ W : Nat → Nat → Hp → Prop, (∃ m, W 0 m (upd H D (.lst []))) ∧ ∀ i m H, W i m H →
      (J.stop i H ∧ Qd H) ∨ (J.go i H ∧ ∃ Nx : Hp → Prop, (∀ H', Nx H' → ∃ m', m' < m ∧ W (i + 1) m' H') ∧ ∀ x H', J.yld i H x H' → g x (wipe σ vs) H' fun σ2 H2 => wipe σ2 vs = wipe σ vs ∧ tt σ2 H2 fun b H3 =>
        if b = true then te σ2 H3 fun y H4 => ∃ acc, H4 D = some (.lst acc) ∧ acc.length < sizeLine ∧ Nx (upd H4 D (.lst (acc ++ [y]))) else Nx H3) := by
  refine lc_it w (fun i H1 => Same H H1 ∧ H1 D = some (.lst (((List.range i).filter p).map f))) ⟨same_upd hD, upd_same⟩ (fun i H1 _ h => hG H1 h.1) (fun i x H1 H2 hi ⟨s1, e1⟩ y => ?_) (fun H1 ⟨s1, e1⟩ => fin H1 s1 e1)
  have hle : ((List.range i).filter p).length ≤ i := by
    have := List.length_filter_le p (List.range i)
    rw [List.length_range] at this
    exact this
  refine turn i x H1 H2 hi s1 y _ _ (fun H5 s5 hp => ⟨_, s5 _ _ e1, lim_lt (by rw [List.length_map]; omega), same_updN (s1.trans s5) hD, ?_⟩) fun H5 s5 hp => ⟨s1.trans s5, ?_⟩
  · rw [upd_same, List.range_succ, List.filter_append, List.filter_cons_of_pos hp, List.map_append]
    rfl
  · rw [s5 _ _ e1, List.range_succ, List.filter_append, List.filter_cons_of_neg (by rw [hp]; exact Bool.false_ne_true), List.map_append]
    show _ = some (HO.lst (_ ++ []))
    rw [List.append_nil]
end
/-! ### Worlds in the heap -/
structure TWorlds (K : PySem.W.Frag) (CW : Addr) : Prop where
  cl : Cls K CW
  nW : NoAttr K CW "widths"
  nA : NoAttr K CW "amount"
  nE : NoAttr K CW "everywhere"
  nT : NoAttr K CW "tables"
def wF (pw pt : Addr) (am : Nat) : List (Str × V) := [("widths", .ref pw), ("amount", .int (am : Int)), ("everywhere", .int ((2 ^ am - 1 : Nat) : Int)), ("tables", .ref pt)]
theorem wF_widths (pw pt : Addr) (am : Nat) : (wF pw pt am).lookup ("widths" : Str) = some (.ref pw) := lk_here
theorem wF_amount (pw pt : Addr) (am : Nat) : (wF pw pt am).lookup ("amount" : Str) = some (.int (am : Int)) := (lk_past (by decide +kernel)).trans lk_here
theorem wF_every (pw pt : Addr) (am : Nat) : (wF pw pt am).lookup ("everywhere" : Str) = some (.int ((2 ^ am - 1 : Nat) : Int)) := (lk_past (by decide +kernel)).trans ((lk_past (by decide +kernel)).trans lk_here)
theorem wF_tables (pw pt : Addr) (am : Nat) : (wF pw pt am).lookup ("tables" : Str) = some (.ref pt) := (lk_past (by decide +kernel)).trans ((lk_past (by decide +kernel)).trans ((lk_past (by decide +kernel)).trans lk_here))
structure WAt (CW wa pw pt : Addr) (H : Hp) (ws T : List Nat) : Prop where
  ins : ∃ dx, H wa = some (.ins CW dx (wF pw pt (2 ^ ws.sum)))
  wl : H pw = some (.lst (lits ws))
  tl : H pt = some (.lst (lits T))
  le : ws.sum ≤ 10
  few : ws.length ≤ 30
theorem WAt.same {CW wa pw pt : Addr} {H H' : Hp} {ws T : List Nat} (h : WAt CW wa pw pt H ws T) (s : Same H H') : WAt CW wa pw pt H' ws T := by
  obtain ⟨dx, h1⟩ := h.ins
  exact ⟨⟨dx, s _ _ h1⟩, s _ _ h.wl, s _ _ h.tl, h.le, h.few⟩
theorem am_le {n : Nat} (h : n ≤ 10) : 2 ^ n ≤ 1024 := Nat.pow_le_pow_right (by decide) h
/-- the worlds of what stands -/
structure WOk (CW wa pw pt : Addr) (H : Hp) (d : Sm03.Stand) (T : List Nat) : Prop where
  at_ : WAt CW wa pw pt H (Sm03.inputs d.terms) T
  tab : BS.TabOk (2 ^ (Sm03.inputs d.terms).sum) d.terms d.graph d.graph.length T
theorem WOk.same {CW wa pw pt : Addr} {H H' : Hp} {d : Sm03.Stand} {T : List Nat} (h : WOk CW wa pw pt H d T) (s : Same H H') : WOk CW wa pw pt H' d T := ⟨h.at_.same s, h.tab⟩
/-! ### promises -/
def spWhere (CW : Addr) : Sp := fun vs H Q _ => ∃ (wa pw pt : Addr) (ws T : List Nat) (l : Nat), vs = [.ref wa, .int l] ∧ WAt CW wa pw pt H ws T ∧ l / 2 < T.length ∧ Q (.int (BS.wh (2 ^ ws.sum) T l : Nat)) H
def spBitIs (CW : Addr) : Sp := fun vs H Q _ => ∃ (wa pw pt : Addr) (ws T : List Nat) (l : Nat), vs = [.ref wa, .int l] ∧ WAt CW wa pw pt H ws T ∧ ∀ H', Same H H' → Q (.int (BS.bitSum (fun k => k.testBit l) (2 ^ ws.sum) : Nat)) H'
def spTabs (CW : Addr) : Sp := fun vs H Q _ => ∃ (wa pw pt p : Addr) (ws T word : List Nat), vs = [.ref wa, .ref p] ∧ WAt CW wa pw pt H ws T ∧ H p = some (.lst (lits word)) ∧ word.length ≤ 100 ∧ (∀ l ∈ word, l / 2 < T.length) ∧ New H Q (word.map (BS.wh (2 ^ ws.sum) T))
def spListed (CW : Addr) : Sp := fun vs H Q _ => ∃ (wa pw pt : Addr) (ws T : List Nat) (t : Nat), vs = [.ref wa, .int t] ∧ WAt CW wa pw pt H ws T ∧ New H Q ((List.range (2 ^ ws.sum)).filter fun k => t.testBit k)
def spNum (CW : Addr) : Sp := fun vs H Q _ => ∃ (wa pw pt p : Addr) (ws T r : List Nat), vs = [.ref wa, .ref p] ∧ WAt CW wa pw pt H ws T ∧ H p = some (.lst (lits r)) ∧ r.length = ws.length ∧ (∀ x ∈ r.zip ws, x.1 < 2 ^ x.2) ∧
  ∀ H', Same H H' → Q (.int (BS.numGo 0 ws r : Nat)) H'
def spIn (CW : Addr) : Sp := fun vs H Q _ => ∃ (wa pw pt : Addr) (ws T : List Nat) (k : Nat), vs = [.ref wa, .int k] ∧ WAt CW wa pw pt H ws T ∧ New H Q (BS.rowAt ws k)
def spTold (CW : Addr) : Sp := fun vs H Q _ => ∃ (wa pw pt : Addr) (ws T : List Nat) (k : Nat), vs = [.ref wa, .int k] ∧ WAt CW wa pw pt H ws T ∧ New H Q (ws.length :: BS.rowAt ws k)
def spValIn : Sp := fun vs H Q _ => ∃ (p : Addr) (ts : List Nat) (k : Nat), vs = [.ref p, .int k] ∧ H p = some (.lst (lits ts)) ∧ ts.length ≤ 100 ∧ ∀ H', Same H H' → Q (.int (BS.bn (ts.map fun t => t.testBit k) : Nat)) H'
def spDiff (CW : Addr) : Sp := fun vs H Q _ => ∃ (wa pw pt p r : Addr) (ws T a b : List Nat), vs = [.ref wa, .ref p, .ref r] ∧ WAt CW wa pw pt H ws T ∧ H p = some (.lst (lits a)) ∧ H r = some (.lst (lits b)) ∧ a.length = b.length ∧ a.length ≤ 100 ∧ (∀ l ∈ a, l / 2 < T.length) ∧ (∀ l ∈ b, l / 2 < T.length) ∧
  ∀ (D : Nat) (H' : Hp), Same H H' → (∀ k, k < 2 ^ ws.sum → D.testBit k = (BS.bv (BS.valT T k) a != BS.bv (BS.valT T k) b)) → Q (.int (D : Nat)) H'
def spFit (CS CG CW : Addr) : Sp := fun vs H Q _ => ∃ (wa pw pt : Addr) (A : Ad) (s : Sm03.St) (T : List Nat), vs = [.ref wa, .ref A.sa] ∧ SAt CS CG A H s ∧ WOk CW wa pw pt H s.now T ∧
  ∀ F : Nat, (∀ k, k < 2 ^ (Sm03.inputs s.now.terms).sum → F.testBit k = Sm03.fits s.now.terms s.now.claims (BS.rowAt (Sm03.inputs s.now.terms) k)) → Q (.int (F : Nat)) H
def spPlaces (CS CG : Addr) : Sp := fun vs H Q _ => ∃ (A : Ad) (s : Sm03.St), vs = [.ref A.sa] ∧ SAt CS CG A H s ∧
  ∀ (p : Addr) (H' : Hp) (kvs : List (Key × V)), Same H H' → H p = none → H' p = some (.dK kvs) → (∀ (J I x : Nat) (w : List Nat), (BS.inpW s.now.terms)[J]? = some w → w[I]? = some x → valV kvs (Sum.inl (x : Int)) = some (.int ((BS.below s.now.terms J + I : Nat) : Int))) → Q (.ref p) H'
def spWInit (CS CG CW : Addr) : Sp := fun vs H Q _ => ∃ (p dx : Addr) (A : Ad) (s : Sm03.St), vs = [.ref p, .ref A.sa] ∧ H p = some (.ins CW dx []) ∧ SAt CS CG A H s ∧
  ∀ (H' : Hp) (pw pt : Addr) (T : List Nat), WOk CW p pw pt H' s.now T → (∀ b o, H b = some o → b ≠ p → H' b = some o) → Q .non H'
/-! ### inputs' names and words -/
theorem in_words : ∀ (es pre : List Entry), (inIdx pre.length es).map (Sm03.wordOf (pre ++ es)) = BS.inpW es
  | [], pre => rfl
  | x :: r, pre => by
    have ih := in_words r (pre ++ [x])
    rw [List.append_assoc, List.length_append] at ih
    have ih' : (inIdx (pre.length + 1) r).map (Sm03.wordOf (pre ++ x :: r)) = BS.inpW r := ih
    have hx : Sm03.wordOf (pre ++ x :: r) pre.length = x.word := by
      unfold Sm03.wordOf
      rw [List.getElem?_append_right (Nat.le_refl _), Nat.sub_self]
      rfl
    unfold inIdx BS.inpW
    rw [List.filterMap_cons]
    cases e : x.term with
    | input w =>
      dsimp only
      rw [List.map_cons, ih', hx]
      rfl
    | _ => exact ih'
theorem in_words0 (es : List Entry) : (inIdx 0 es).map (Sm03.wordOf es) = BS.inpW es := in_words es []
theorem in_widths0 {es : List Entry} (h : InW es) : (inIdx 0 es).map (Sm03.widthOf es) = Sm03.inputs es := in_widths es [] h
theorem inp_sum {d : Sm03.Stand} (h : WF d) : (Sm03.inputs d.terms).sum ≤ 10 := by
  have := h.il
  rw [total_sum] at this
  exact this
theorem inp_few {d : Sm03.Stand} (h : WF d) : (Sm03.inputs d.terms).length ≤ 30 := Nat.le_trans (List.length_filterMap_le _ _) h.tl
theorem WF.lits {d : Sm03.Stand} (h : WF d) {t : Nat} {l : Nat} (hl : l ∈ Sm03.wordOf d.terms t) : l / 2 < d.graph.length + 1 := by
  unfold Sm03.wordOf at hl
  cases e : d.terms[t]? with
  | none => rw [e] at hl; cases hl
  | some x =>
    rw [e] at hl
    have := h.gd.li x (List.mem_of_getElem? e) l hl
    unfold BS.Lit at this
    omega
/-! ### numbers' bits -/
theorem natXor (a b : Nat) : Builtin.bitXor (a : Int) (b : Int) = ((a ^^^ b : Nat) : Int) := by
  rw [Bits.bitXor_pp (by omega) (by omega)]
  rfl
theorem natAnd (a b : Nat) : Builtin.bitAnd (a : Int) (b : Int) = ((a &&& b : Nat) : Int) := by
  unfold Builtin.bitAnd
  simp
theorem natOr (a b : Nat) : Builtin.bitOr (a : Int) (b : Int) = ((a ||| b : Nat) : Int) := by
  rw [Bits.bitOr_pp (by omega) (by omega)]
  rfl
theorem bitN (v i : Nat) : v / 2 ^ i % 2 = (v.testBit i).toNat := by rw [Nat.toNat_testBit]
theorem bitT (v i : Nat) : decide (V.int ((v / 2 ^ i % 2 : Nat) : Int) = V.int 1) = v.testBit i := by
  rw [bitN]
  cases v.testBit i <;> rfl
theorem bitIf (v i : Nat) : decide (V.int (Builtin.bitAnd ((v : Int) / 2 ^ ((i : Int)).toNat) 1) = V.int 1) = v.testBit i := by rw [bitA]; exact bitT v i
theorem bitIfL (v i : Nat) : decide (V.int (Builtin.bitAnd ((0 + (v : Int)) / 2 ^ ((i : Int)).toNat) 1) = V.int 1) = v.testBit i := by rw [Int.zero_add]; exact bitIf v i
theorem bitIfR (v i : Nat) : decide (V.int (Builtin.bitAnd ((v : Int) / 2 ^ ((0 + (i : Int))).toNat) 1) = V.int 1) = v.testBit i := by rw [Int.zero_add]; exact bitIf v i
theorem shlN (a j : Nat) : (a : Int) * 2 ^ ((j : Int)).toNat = ((a * 2 ^ j : Nat) : Int) := by
  rw [Int.toNat_natCast, Int.natCast_mul, Int.natCast_pow]
  rfl
theorem shrN (a j : Nat) : (a : Int) / 2 ^ ((j : Int)).toNat = ((a / 2 ^ j : Nat) : Int) := by
  rw [Int.toNat_natCast, Int.natCast_ediv, Int.natCast_pow]
  rfl
end BC

set_option Elab.async false
set_option linter.all false
set_option maxRecDepth 100000
set_option maxHeartbeats 2000000
namespace BC
open PySem PySem.Spec PyProof.Rows L2
section
variable {P : Program} {w : World} {K : PySem.W.Frag} {mg : Str → Option Value} {base : Heap} {CG CS CW : Addr} {f : Addr} {fd : FuncData}
abbrev s_Worlds_where : Stmt := inClass (top 10) 2
abbrev N_Worlds_where : List Str := ["self", "literal", "table"]
theorem sc_Worlds_where : FnScope N_Worlds_where ["self", "literal"] (defScope s_Worlds_where) := ⟨rfl, rfl, rfl, by decide +kernel, rfl, by decide +kernel, by decide +kernel⟩
theorem ok_Worlds_where (F : Fun K "where" "Worlds.where" s_Worlds_where f fd) (T_Worlds : TWorlds K CW) : FnOk P w K mg base CX0 1 f fd ["self", "literal"] (spWhere CW) := by
  refine F.ok sc_Worlds_where (fun vs H Q E h => ?_) (fun cdv A outer s H vs Q E hr h => ?_)
  · obtain ⟨_, _, _, _, _, _, rfl, _⟩ := h
    rfl
  · obtain ⟨wa, pw, pt, ws, T, l, rfl, hW, hl, q⟩ := h
    obtain ⟨dx, h1⟩ := hW.ins
    have hu := hu_of hr
    refine ⟨_, (pss_cons (ps_set (i := 2) sc_Worlds_where.nd rfl (Or.inl rfl) (pe_ix ix_list (pe_fld (pv 0) rfl) (pe_op op_fdiv (pv 1) pe_int) (fun _ _ => rfl)))
      (pss_cons (ps_if (pt_cmpR op_eq (pe_op op_mod (pv 1) pe_int) pe_int (nomark _))
      (pss_one (ps_ret (pe_op op_xor (pe_fld (pv 0) rfl) (pv 2))))
      pss_nil)
      (pss_one (ps_ret (pv 2))))), ?_⟩
    have e2 : (l : Int) / 2 = ((l / 2 : Nat) : Int) := by omega
    have e3 : (lits T)[l / 2]? = some (.int ((T.getD (l / 2) 0 : Nat) : Int)) := at_lits (by rw [List.getD_eq_getElem?_getD, List.getElem?_eq_getElem hl]; rfl)
    refine ⟨_, rfl, wa, CW, dx, _, _, rfl, h1, T_Worlds.cl, T_Worlds.nT, wF_tables _ _ _, _, rfl, _, _, rfl, rfl, ⟨by decide, by decide⟩, pt, _, _, _, rfl, rfl, .inl (.inl hW.tl), atI_nat e3, ?_⟩
    refine ⟨_, rfl, _, _, rfl, rfl, (show (0 : Int) < 2 by decide), rfl, _, rfl, ?_⟩
    by_cases hm : l % 2 = 1
    · refine if_true_of (decide_eq_true (by show V.int ((l : Int) % 2) = V.int 1; rw [show (l : Int) % 2 = 1 by omega])) ?_
      refine ⟨_, rfl, wa, CW, dx, _, _, rfl, h1, T_Worlds.cl, T_Worlds.nE, wF_every _ _ _, _, rfl, _, _, rfl, rfl, ?_⟩
      unfold BS.wh at q
      rw [if_pos hm, ← natXor] at q
      exact q
    · refine if_false_of (decide_eq_false (fun z => hm (by injection z with z; omega))) ?_
      unfold BS.wh at q
      rw [if_neg hm] at q
      exact ⟨_, rfl, q⟩

abbrev s_Worlds_where_bit_is : Stmt := inClass (top 10) 1
abbrev N_Worlds_where_bit_is : List Str := ["self", "place", "k"]
theorem sc_Worlds_where_bit_is : FnScope N_Worlds_where_bit_is ["self", "place"] (defScope s_Worlds_where_bit_is) := ⟨rfl, rfl, rfl, by decide +kernel, rfl, by decide +kernel, by decide +kernel⟩
theorem ok_Worlds_where_bit_is (F : Fun K "where_bit_is" "Worlds.where_bit_is" s_Worlds_where_bit_is f fd) (b_sum : mg "sum" = none) (b_range : mg "range" = none) (T_Worlds : TWorlds K CW) : FnOk P w K mg base CX0 1 f fd ["self", "place"] (spBitIs CW) := by
  refine F.ok sc_Worlds_where_bit_is (fun vs H Q E h => ?_) (fun cdv A outer s H vs Q E hr h => ?_)
  · obtain ⟨_, _, _, _, _, _, rfl, _⟩ := h
    rfl
  · obtain ⟨wa, pw, pt, ws, T, l, rfl, hW, q⟩ := h
    obtain ⟨dx, h1⟩ := hW.ins
    have hu := hu_of hr
    refine ⟨_, (pss_one (ps_ret (pe_callB (cr_sum rfl) (by rfl) b_sum (by decide +kernel) (pa_cons (pe_lc (own := [("k", 2)]) (g := gName 2) rfl sc_Worlds_where_bit_is.nd (pi_range1 (by rfl) b_range (pa_cons (pe_fld (pv 0) rfl) pa_nil)) (blkOk_by (N := N_Worlds_where_bit_is) (sc := defScope s_Worlds_where_bit_is) (by decide +kernel)) (fun _ _ _ _ _ => (pg_name (i := 2) sc_Worlds_where_bit_is.nd rfl (Or.inl rfl))) (fun _ _ _ _ _ => (pts_one (pt_cmpR op_eq (pe_op op_and (pe_op op_shr (pv 2) (pv 1)) pe_int) pe_int (nomark _)))) (fun _ _ _ _ _ => (pe_op op_shl pe_int (pv 2)))) pa_nil)))), ?_⟩
    have ha := am_le hW.le
    generalize hA : 2 ^ ws.sum = am at h1 q ha
    have hL : (2000 : Nat) ≤ LIM := by decide
    refine ⟨_, rfl, wa, CW, dx, _, _, rfl, h1, T_Worlds.cl, T_Worlds.nA, wF_amount _ _ _, (am : Int), rfl, by omega, by omega, ?_⟩
    intro D hD
    rw [Int.toNat_natCast]
    refine lc_gen walk_range (fun k => k.testBit l) (fun k => .int ((2 ^ k : Nat) : Int)) (by omega) hD (fun _ _ => trivial) ?_ ?_
    · rintro i x H1 H2 hi s1 ⟨rfl, rfl⟩ R N r1 r2
      refine ⟨rfl, ?_⟩
      refine ⟨_, rfl, _, rfl, _, _, rfl, rfl, by omega, _, _, rfl, rfl, rfl, _, rfl, ?_⟩
      cases hb : i.testBit l with
      | true =>
        refine if_true_of ((bitIfL i l).trans hb) ?_
        refine ⟨_, rfl, _, _, rfl, rfl, ⟨by omega, by omega, by decide⟩, ?_⟩
        have := r1 _ (Same.refl _) hb
        dsimp only
        rw [Int.zero_add, Int.toNat_natCast, Int.one_mul]
        rw [Int.natCast_pow] at this
        exact this
      | false => exact if_false_of ((bitIfL i l).trans hb) (r2 _ (Same.refl _) hb)
    · intro H1 s1 e1
      refine ⟨D, ((List.range am).filter fun k => k.testBit l).map (fun k => ((2 ^ k : Nat) : Int)), rfl, .inl (.inl ?_), ?_⟩
      · rw [List.map_map]; exact e1
      · have e := sum_cast (((List.range am).filter fun k => k.testBit l).map fun k => 2 ^ k)
        rw [List.map_map] at e
        have e' : (((List.range am).filter fun k => k.testBit l).map fun k => ((2 ^ k : Nat) : Int)).sum = ((BS.bitSum (fun k => k.testBit l) am : Nat) : Int) := e
        rw [e']
        exact q H1 s1

abbrev s_Worlds_listed : Stmt := inClass (top 10) 6
abbrev N_Worlds_listed : List Str := ["self", "table", "k"]
theorem sc_Worlds_listed : FnScope N_Worlds_listed ["self", "table"] (defScope s_Worlds_listed) := ⟨rfl, rfl, rfl, by decide +kernel, rfl, by decide +kernel, by decide +kernel⟩
theorem ok_Worlds_listed (F : Fun K "listed" "Worlds.listed" s_Worlds_listed f fd) (b_range : mg "range" = none) (T_Worlds : TWorlds K CW) : FnOk P w K mg base CX0 1 f fd ["self", "table"] (spListed CW) := by
  refine F.ok sc_Worlds_listed (fun vs H Q E h => ?_) (fun cdv A outer s H vs Q E hr h => ?_)
  · obtain ⟨_, _, _, _, _, _, rfl, _⟩ := h
    rfl
  · obtain ⟨wa, pw, pt, ws, T, t, rfl, hW, q⟩ := h
    obtain ⟨dx, h1⟩ := hW.ins
    have hu := hu_of hr
    refine ⟨_, (pss_one (ps_ret (pe_lc (own := [("k", 2)]) (g := gName 2) rfl sc_Worlds_listed.nd (pi_range1 (by rfl) b_range (pa_cons (pe_fld (pv 0) rfl) pa_nil)) (blkOk_by (N := N_Worlds_listed) (sc := defScope s_Worlds_listed) (by decide +kernel)) (fun _ _ _ _ _ => (pg_name (i := 2) sc_Worlds_listed.nd rfl (Or.inl rfl))) (fun _ _ _ _ _ => (pts_one (pt_cmpR op_eq (pe_op op_and (pe_op op_shr (pv 1) (pv 2)) pe_int) pe_int (nomark _)))) (fun _ _ _ _ _ => (pv 2))))), ?_⟩
    have ha := am_le hW.le
    generalize hA : 2 ^ ws.sum = am at h1 q ha
    have hL : (2000 : Nat) ≤ LIM := by decide
    refine ⟨_, rfl, wa, CW, dx, _, _, rfl, h1, T_Worlds.cl, T_Worlds.nA, wF_amount _ _ _, (am : Int), rfl, by omega, by omega, ?_⟩
    intro D hD
    rw [Int.toNat_natCast]
    refine lc_gen walk_range (fun k => t.testBit k) (fun k => .int (k : Int)) (by omega) hD (fun _ _ => trivial) ?_ ?_
    · rintro i x H1 H2 hi s1 ⟨rfl, rfl⟩ R N r1 r2
      refine ⟨rfl, ?_⟩
      refine ⟨_, rfl, _, rfl, _, _, rfl, rfl, by omega, _, _, rfl, rfl, rfl, _, rfl, ?_⟩
      cases hb : t.testBit i with
      | true =>
        refine if_true_of ((bitIfR t i).trans hb) ?_
        have := r1 _ (Same.refl _) hb
        refine ⟨_, rfl, ?_⟩
        dsimp only
        rw [Int.zero_add]
        exact this
      | false => exact if_false_of ((bitIfR t i).trans hb) (r2 _ (Same.refl _) hb)
    · intro H1 s1 e1
      exact q D H1 s1 hD e1

abbrev s_Worlds_tables_of : Stmt := inClass (top 10) 3
abbrev N_Worlds_tables_of : List Str := ["self", "word", "literal"]
theorem sc_Worlds_tables_of : FnScope N_Worlds_tables_of ["self", "word"] (defScope s_Worlds_tables_of) := ⟨rfl, rfl, rfl, by decide +kernel, rfl, by decide +kernel, by decide +kernel⟩
theorem ok_Worlds_tables_of (F : Fun K "tables_of" "Worlds.tables_of" s_Worlds_tables_of f fd) (D_where : DM P w K mg base CW 1 "where" (spWhere CW)) : FnOk P w K mg base CX0 2 f fd ["self", "word"] (spTabs CW) := by
  refine F.ok sc_Worlds_tables_of (fun vs H Q E h => ?_) (fun cdv A outer s H vs Q E hr h => ?_)
  · obtain ⟨_, _, _, _, _, _, _, rfl, _⟩ := h
    rfl
  · obtain ⟨wa, pw, pt, p, ws, T, word, rfl, hW, hp, hl, hb, q⟩ := h
    have hu := hu_of hr
    refine ⟨_, (pss_one (ps_ret (pe_lc (own := [("literal", 2)]) (g := gName 2) (tt := tYes) rfl sc_Worlds_tables_of.nd (pi_list (pv 1)) (blkOk_by (N := N_Worlds_tables_of) (sc := defScope s_Worlds_tables_of) (by decide +kernel)) (fun _ _ _ _ _ => (pg_name (i := 2) sc_Worlds_tables_of.nd rfl (Or.inl rfl))) (fun _ _ _ _ _ => pts_nil) (fun _ _ _ _ _ => (pe_dm (pv 0) D_where hr (pa_cons (pv 2) pa_nil)))))), ?_⟩
    have hL : (2000 : Nat) ≤ LIM := by decide
    refine ⟨_, rfl, p, rfl, ⟨_, .inl (.inl hp)⟩, fun D hD => ?_⟩
    refine lc_map (walk_list (K := K) (a := p) (xs := lits word)) (lits (word.map (BS.wh (2 ^ ws.sum) T))) (by rw [lits_len, lits_len, List.length_map]) (by rw [lits_len]; omega) hD (fun H1 s1 => .inl (.inl (s1 _ _ hp))) ?_ ?_
    · rintro i v H1 H2 y hi s1 ⟨rfl, hx'⟩ hy R N r
      obtain ⟨x, hx, rfl⟩ := lits_at hx'
      obtain ⟨z, hz, rfl⟩ := lits_at hy
      rw [List.getElem?_map, hx] at hz
      injection hz with hz
      subst hz
      have hW1 := hW.same s1
      obtain ⟨dx1, h11⟩ := hW1.ins
      refine ⟨rfl, yes_of (if_true_of rfl ?_)⟩
      exact ⟨_, rfl, wa, dx1, _, rfl, h11, by rfl, _, rfl, wa, pw, pt, ws, T, x, rfl, hW1, hb x (List.mem_of_getElem? hx), r _ (Same.refl _)⟩
    · intro H1 s1 e1
      exact q D H1 s1 hD e1

abbrev s_value_in : Stmt := top 9
abbrev N_value_in : List Str := ["tables", "world", "i", "table"]
theorem sc_value_in : FnScope N_value_in ["tables", "world"] (defScope s_value_in) := ⟨rfl, rfl, rfl, by decide +kernel, rfl, by decide +kernel, by decide +kernel⟩
theorem ok_value_in (F : Fun K "value_in" "value_in" s_value_in f fd) (b_sum : mg "sum" = none) (b_enumerate : mg "enumerate" = none) : FnOk P w K mg base CX0 1 f fd ["tables", "world"] (spValIn) := by
  refine F.ok sc_value_in (fun vs H Q E h => ?_) (fun cdv A outer s H vs Q E hr h => ?_)
  · obtain ⟨_, _, _, rfl, _⟩ := h
    rfl
  · obtain ⟨p, ts, k, rfl, hp, hl, q⟩ := h
    have hu := hu_of hr
    refine ⟨_, (pss_one (ps_ret (pe_callB (cr_sum rfl) (by rfl) b_sum (by decide +kernel) (pa_cons (pe_lc (own := [("i", 2), ("table", 3)]) (g := gTup K 2 (gCons (gName 2) (gCons (gName 3) gNil))) (tt := tYes) rfl sc_value_in.nd (pi_enum (by rfl) b_enumerate (pa_cons (pv 0) pa_nil)) (blkOk_by (N := N_value_in) (sc := defScope s_value_in) (by decide +kernel)) (fun _ _ _ _ _ => (pg_tup rfl (pgs_cons (pg_name (i := 2) sc_value_in.nd rfl (Or.inl rfl)) (pgs_cons (pg_name (i := 3) sc_value_in.nd rfl (Or.inl rfl)) pgs_nil)))) (fun _ _ _ _ _ => pts_nil) (fun _ _ _ _ _ => (pe_op op_shl (pe_op op_and (pe_op op_shr (pv 3) (pv 1)) pe_int) (pv 2)))) pa_nil)))), ?_⟩
    have hL : (2000 : Nat) ≤ LIM := by decide
    refine ⟨_, rfl, p, _, rfl, .inl (.inl hp), fun D hD => ?_⟩
    refine lc_map (walk_enum (K := K) (a := p) (xs := lits ts)) (lits (((ts.map fun t => t.testBit k).zipIdx 0).map fun x => x.1.toNat * 2 ^ x.2)) (by rw [lits_len, lits_len, List.length_map, List.length_zipIdx, List.length_map]) (by rw [lits_len]; omega) hD (fun H1 s1 => .inl (.inl (s1 _ _ hp))) ?_ ?_
    · rintro i v H1 H2 y hi s1 ⟨T, x', y', rfl, hT, rfl, hx', hy'⟩ hy R N r
      obtain ⟨x, hx, rfl⟩ := lits_at hy'
      injection hx' with hx'
      subst hx'
      obtain ⟨z, hz, rfl⟩ := lits_at hy
      rw [List.getElem?_map, List.getElem?_zipIdx, List.getElem?_map, hx] at hz
      have hz : some ((x.testBit k).toNat * 2 ^ (0 + i)) = some z := hz
      injection hz with hz
      rw [Nat.zero_add] at hz
      subst hz
      refine ⟨T, [.int i, .int x], rfl, .inl (.inl upd_same), rfl, _, _, rfl, _, _, rfl, rfl, rfl, yes_of (if_true_of rfl ?_)⟩
      refine ⟨_, rfl, _, rfl, _, _, rfl, rfl, by omega, _, _, rfl, rfl, _, rfl, _, _, rfl, rfl, ?_, ?_⟩
      · rw [bitA]
        rw [lits_len] at hi
        have : (x / 2 ^ k % 2 : Nat) < 2 := Nat.mod_lt _ (by decide)
        exact ⟨by omega, by omega, by omega⟩
      · dsimp only
        rw [bitA, bitN, shlN]
        exact r _ (same_upd hT)
    · intro H1 s1 e1
      refine ⟨D, (((ts.map fun t => t.testBit k).zipIdx 0).map fun x => x.1.toNat * 2 ^ x.2).map (fun (x : Nat) => (x : Int)), rfl, .inl (.inl ?_), ?_⟩
      · rw [List.map_map]; exact e1
      · rw [sum_cast, BS.bn_sum, Nat.pow_zero, Nat.one_mul]
        exact q H1 s1
end
end BC

set_option Elab.async false
set_option linter.all false
set_option maxRecDepth 100000
set_option maxHeartbeats 2000000
namespace BC
open PySem PySem.Spec PyProof.Rows L2
section
variable {P : Program} {w : World} {K : PySem.W.Frag} {mg : Str → Option Value} {base : Heap} {CG CS CW : Addr} {f : Addr} {fd : FuncData}
abbrev s_Worlds_fitting : Stmt := inClass (top 10) 4
abbrev N_Worlds_fitting : List Str := ["self", "state", "table", "name"]
theorem sc_Worlds_fitting : FnScope N_Worlds_fitting ["self", "state"] (defScope s_Worlds_fitting) := ⟨rfl, rfl, rfl, by decide +kernel, rfl, by decide +kernel, by decide +kernel⟩
theorem ok_Worlds_fitting (F : Fun K "fitting" "Worlds.fitting" s_Worlds_fitting f fd) (T_Worlds : TWorlds K CW) (T_State : TState K CS) (D_where : DM P w K mg base CW 1 "where" (spWhere CW)) : FnOk P w K mg base CX0 2 f fd ["self", "state"] (spFit CS CG CW) := by
  refine F.ok sc_Worlds_fitting (fun vs H Q E h => ?_) (fun cdv A outer s H vs Q E hr h => ?_)
  · obtain ⟨_, _, _, _, _, _, rfl, _⟩ := h
    rfl
  · obtain ⟨wa, pw, pt, A, s, T, rfl, hS, hO, q⟩ := h
    obtain ⟨dx, h1⟩ := hO.at_.ins
    obtain ⟨ds, h2⟩ := hS.ins
    have hu := hu_of hr
    refine ⟨_, (pss_cons (ps_set (i := 2) sc_Worlds_fitting.nd rfl (Or.inl rfl) (pe_fld (pv 0) rfl))
      (pss_cons (ps_for PassesOwn.never rfl (pi_list (pe_fld (pv 1) rfl)) (pg_name (i := 3) sc_Worlds_fitting.nd rfl (Or.inl rfl))
      (pss_one (ps_set (i := 2) sc_Worlds_fitting.nd rfl (Or.inl rfl) (pe_op op_and (pv 2) (pe_dm (pv 0) D_where hr (pa_cons (pe_ix ix_list (pe_ix ix_list (pe_fld (pv 1) rfl) (pv 3) (fun _ _ => rfl)) pe_int (fun _ _ => rfl)) pa_nil))))))
      (pss_one (ps_ret (pv 2))))), ?_⟩
    have hWF := hS.wf
    refine ⟨_, rfl, wa, CW, dx, _, _, rfl, h1, T_Worlds.cl, T_Worlds.nE, wF_every _ _ _, ?_⟩
    refine ⟨_, rfl, A.sa, CS, ds, _, _, rfl, h2, T_State.cl, T_State.nC, sF_claims A, A.pc, rfl, ⟨_, .inl (.inl hS.claims)⟩, ?_⟩
    refine for_it (walk_list (K := K) (a := A.pc) (xs := lits s.now.claims))
      (fun i σ H1 => H1 = H ∧ ∃ (F : Nat) (v3 : Option V), σ = [some (.ref wa), some (.ref A.sa), some (.int (F : Int)), v3] ∧ ∀ k, k < 2 ^ (Sm03.inputs s.now.terms).sum → F.testBit k = (s.now.claims.take i).all fun c => BS.lv (BS.valT T k) (Sm03.last (Sm03.wordOf s.now.terms c)))
      ⟨rfl, 2 ^ 2 ^ (Sm03.inputs s.now.terms).sum - 1, none, rfl, fun k hk => by rw [Nat.testBit_two_pow_sub_one, decide_eq_true hk]; rfl⟩ (fun i σ H1 _ h => by rw [h.1]; exact .inl (.inl hS.claims)) ?_ ?_
    · rintro i v σ H1 H2 hi ⟨rfl, F, v3, rfl, hF⟩ ⟨rfl, hx'⟩
      obtain ⟨c, hc, rfl⟩ := lits_at hx'
      obtain ⟨c1, c2⟩ := hWF.cw c (List.mem_of_getElem? hc)
      obtain ⟨rs, r, h3, h4, h5⟩ := hS.word c1
      obtain ⟨x, hx⟩ := BS.word1 c2
      have hxl : x / 2 < T.length := by
        rw [hO.tab.len]
        exact hWF.lits (t := c) (by rw [hx]; exact List.mem_singleton.mpr rfl)
      have h5' := h5.1
      rw [hx] at h5'
      refine ⟨_, rfl, _, rfl, wa, dx, _, rfl, h1, by rfl, _, rfl, A.sa, CS, ds, _, _, rfl, h2, T_State.cl, T_State.nT, sF_terms A, _, rfl, A.pt, _, _, _, rfl, rfl, .inl (.inl h3), atI_nat h4, r, _, _, _, rfl, rfl, .inl (.inl h5'), at0 _ _, wa, pw, pt, _, T, x, rfl, hO.at_, hxl, _, _, rfl, rfl, ?_⟩
      refine ⟨rfl, F &&& BS.wh (2 ^ (Sm03.inputs s.now.terms).sum) T x, some (.int (c : Int)), ?_, fun k hk => ?_⟩
      · rw [← natAnd]
        rfl
      · rw [Nat.testBit_and, hF k hk, BS.wh_bit hk, List.take_add_one, hc, List.all_append]
        show _ = (_ && (BS.lv (BS.valT T k) (Sm03.last (Sm03.wordOf s.now.terms c)) && true))
        rw [Bool.and_true, hx]
        rfl
    · rintro σ H1 ⟨rfl, F, v3, rfl, hF⟩
      refine ⟨_, rfl, q F fun k hk => ?_⟩
      rw [hF k hk, lits_len, List.take_length, hO.tab.fits hWF.gd hWF.iw hk hWF.cw]

abbrev s_Worlds_differing : Stmt := inClass (top 10) 5
abbrev N_Worlds_differing : List Str := ["self", "word", "other", "table", "x", "y"]
theorem sc_Worlds_differing : FnScope N_Worlds_differing ["self", "word", "other"] (defScope s_Worlds_differing) := ⟨rfl, rfl, rfl, by decide +kernel, rfl, by decide +kernel, by decide +kernel⟩
theorem ok_Worlds_differing (F : Fun K "differing" "Worlds.differing" s_Worlds_differing f fd) (b_zip : mg "zip" = none) (D_where : DM P w K mg base CW 1 "where" (spWhere CW)) : FnOk P w K mg base CX0 2 f fd ["self", "word", "other"] (spDiff CW) := by
  refine F.ok sc_Worlds_differing (fun vs H Q E h => ?_) (fun cdv A outer s H vs Q E hr h => ?_)
  · obtain ⟨_, _, _, _, _, _, _, _, _, rfl, _⟩ := h
    rfl
  · obtain ⟨wa, pw, pt, p, r, ws, T, a, b, rfl, hW, hp, hr', hl, hm, ha, hb, q⟩ := h
    have hu := hu_of hr
    refine ⟨_, (pss_cons (ps_set (i := 3) sc_Worlds_differing.nd rfl (Or.inl rfl) pe_int)
      (pss_cons (ps_for PassesOwn.never rfl (pi_zip (by rfl) b_zip (pa_cons (pv 1) (pa_cons (pv 2) pa_nil))) (pg_tup rfl (pgs_cons (pg_name (i := 4) sc_Worlds_differing.nd rfl (Or.inl rfl)) (pgs_cons (pg_name (i := 5) sc_Worlds_differing.nd rfl (Or.inl rfl)) pgs_nil)))
      (pss_one (ps_set (i := 3) sc_Worlds_differing.nd rfl (Or.inl rfl) (pe_op op_or (pv 3) (pe_op op_xor (pe_dm (pv 0) D_where hr (pa_cons (pv 4) pa_nil)) (pe_dm (pv 0) D_where hr (pa_cons (pv 5) pa_nil)))))))
      (pss_one (ps_ret (pv 3))))), ?_⟩
    refine ⟨_, rfl, _, rfl, p, r, _, _, rfl, .inl (.inl hp), .inl (.inl hr'), ?_⟩
    refine for_it (walk_zip (K := K) (a := p) (b := r) (xs := lits a) (ys := lits b) (n := a.length) (by rw [lits_len, lits_len]; omega))
      (fun i σ H1 => Same H H1 ∧ ∃ (F : Nat) (v4 v5 : Option V), σ = [some (.ref wa), some (.ref p), some (.ref r), some (.int (F : Int)), v4, v5] ∧ ∀ k, k < 2 ^ ws.sum → F.testBit k = (BS.bv (BS.valT T k) (a.take i) != BS.bv (BS.valT T k) (b.take i)))
      ⟨Same.refl H, 0, none, none, rfl, fun k hk => by rw [Nat.zero_testBit, List.take_zero, List.take_zero]; rfl⟩ (fun i σ H1 _ h => ⟨.inl (.inl (h.1 _ _ hp)), .inl (.inl (h.1 _ _ hr'))⟩) ?_ ?_
    · rintro i v σ H1 H2 hi ⟨s1, F, v4, v5, rfl, hF⟩ ⟨U, x', y', rfl, hU, rfl, hx', hy'⟩
      obtain ⟨x, hx, rfl⟩ := lits_at hx'
      obtain ⟨y, hy, rfl⟩ := lits_at hy'
      have s2 := s1.trans (same_upd (o := .tup [.int x, .int y]) hU)
      have hW2 := hW.same s2
      obtain ⟨dx2, h12⟩ := hW2.ins
      refine ⟨U, [.int x, .int y], rfl, .inl (.inl upd_same), rfl, _, _, rfl, _, _, rfl, rfl, ?_⟩
      refine ⟨_, rfl, _, rfl, wa, dx2, _, rfl, h12, by rfl, _, rfl, wa, pw, pt, ws, T, x, rfl, hW2, ha x (List.mem_of_getElem? hx), ?_⟩
      refine ⟨_, rfl, wa, dx2, _, rfl, h12, by rfl, _, rfl, wa, pw, pt, ws, T, y, rfl, hW2, hb y (List.mem_of_getElem? hy), _, _, rfl, rfl, _, _, rfl, rfl, ?_⟩
      refine ⟨s2, F ||| (BS.wh (2 ^ ws.sum) T x ^^^ BS.wh (2 ^ ws.sum) T y), some (.int x), some (.int y), ?_, fun k hk => ?_⟩
      · rw [← natOr, ← natXor]
        rfl
      · rw [Nat.testBit_or, Nat.testBit_xor, hF k hk, BS.wh_bit hk, BS.wh_bit hk, List.take_add_one, hx, List.take_add_one, hy]
        exact (BS.bv_snoc_ne (by rw [List.length_take, List.length_take, hl])).symm
    · rintro σ H1 ⟨s1, F, v4, v5, rfl, hF⟩
      refine ⟨_, rfl, q F H1 s1 fun k hk => ?_⟩
      rw [hF k hk, List.take_length, hl, List.take_length]

abbrev s_Worlds_number_of : Stmt := inClass (top 10) 7
abbrev N_Worlds_number_of : List Str := ["self", "given", "world", "width", "value"]
theorem sc_Worlds_number_of : FnScope N_Worlds_number_of ["self", "given"] (defScope s_Worlds_number_of) := ⟨rfl, rfl, rfl, by decide +kernel, rfl, by decide +kernel, by decide +kernel⟩
theorem ok_Worlds_number_of (F : Fun K "number_of" "Worlds.number_of" s_Worlds_number_of f fd) (b_zip : mg "zip" = none) (T_Worlds : TWorlds K CW) : FnOk P w K mg base CX0 1 f fd ["self", "given"] (spNum CW) := by
  refine F.ok sc_Worlds_number_of (fun vs H Q E h => ?_) (fun cdv A outer s H vs Q E hr h => ?_)
  · obtain ⟨_, _, _, _, _, _, _, rfl, _⟩ := h
    rfl
  · obtain ⟨wa, pw, pt, p, ws, T, r, rfl, hW, hp, hl, hv, q⟩ := h
    obtain ⟨dx, h1⟩ := hW.ins
    have hu := hu_of hr
    refine ⟨_, (pss_cons (ps_set (i := 2) sc_Worlds_number_of.nd rfl (Or.inl rfl) pe_int)
      (pss_cons (ps_for PassesOwn.never rfl (pi_zip (by rfl) b_zip (pa_cons (pe_fld (pv 0) rfl) (pa_cons (pv 1) pa_nil))) (pg_tup rfl (pgs_cons (pg_name (i := 3) sc_Worlds_number_of.nd rfl (Or.inl rfl)) (pgs_cons (pg_name (i := 4) sc_Worlds_number_of.nd rfl (Or.inl rfl)) pgs_nil)))
      (pss_one (ps_set (i := 2) sc_Worlds_number_of.nd rfl (Or.inl rfl) (pe_op op_add (pe_op op_shl (pv 2) (pv 3)) (pv 4)))))
      (pss_one (ps_ret (pv 2))))), ?_⟩
    refine ⟨_, rfl, wa, CW, dx, _, _, rfl, h1, T_Worlds.cl, T_Worlds.nW, wF_widths _ _ _, _, rfl, pw, p, _, _, rfl, .inl (.inl hW.wl), .inl (.inl hp), ?_⟩
    refine for_it (walk_zip (K := K) (a := pw) (b := p) (xs := lits ws) (ys := lits r) (n := ws.length) (by rw [lits_len, lits_len]; omega))
      (fun i σ H1 => Same H H1 ∧ ∃ (v3 v4 : Option V), σ = [some (.ref wa), some (.ref p), some (.int ((BS.numGo 0 (ws.take i) (r.take i) : Nat) : Int)), v3, v4])
      ⟨Same.refl H, none, none, rfl⟩ (fun i σ H1 _ h => ⟨.inl (.inl (h.1 _ _ hW.wl)), .inl (.inl (h.1 _ _ hp))⟩) ?_ ?_
    · rintro i v σ H1 H2 hi ⟨s1, v3, v4, rfl⟩ ⟨U, x', y', rfl, hU, rfl, hx', hy'⟩
      obtain ⟨x, hx, rfl⟩ := lits_at hx'
      obtain ⟨y, hy, rfl⟩ := lits_at hy'
      have s2 := s1.trans (same_upd (o := .tup [.int x, .int y]) hU)
      have hlt := BS.numGo_lt (ws := ws) (r := r) hl hv i
      have hle := am_le hW.le
      have hx10 : x ≤ 10 := Nat.le_trans (BS.le_sum (List.mem_of_getElem? hx)) hW.le
      have e2 := BS.numGo_snoc (ws := ws) (r := r) hx hy
      refine ⟨U, [.int x, .int y], rfl, .inl (.inl upd_same), rfl, _, _, rfl, _, _, rfl, rfl, ?_⟩
      refine ⟨_, rfl, _, rfl, _, _, rfl, rfl, ⟨by omega, by omega, by rw [Int.natAbs_natCast]; exact Nat.lt_of_lt_of_le hlt (Nat.le_trans hle (by decide))⟩, _, rfl, _, _, rfl, rfl, ?_⟩
      refine ⟨s2, some (.int x), some (.int y), ?_⟩
      rw [e2, Int.natCast_add, ← shlN]
      rfl
    · rintro σ H1 ⟨s1, v3, v4, rfl⟩
      refine ⟨_, rfl, ?_⟩
      rw [List.take_length, ← hl, List.take_length]
      exact q H1 s1

abbrev s_Worlds_inputs_in : Stmt := inClass (top 10) 8
abbrev N_Worlds_inputs_in : List Str := ["self", "world", "given", "width"]
theorem sc_Worlds_inputs_in : FnScope N_Worlds_inputs_in ["self", "world"] (defScope s_Worlds_inputs_in) := ⟨rfl, rfl, rfl, by decide +kernel, rfl, by decide +kernel, by decide +kernel⟩
theorem ok_Worlds_inputs_in (F : Fun K "inputs_in" "Worlds.inputs_in" s_Worlds_inputs_in f fd) (b_reversed : mg "reversed" = none) (T_Worlds : TWorlds K CW) : FnOk P w K mg base CX0 1 f fd ["self", "world"] (spIn CW) := by
  refine F.ok sc_Worlds_inputs_in (fun vs H Q E h => ?_) (fun cdv A outer s H vs Q E hr h => ?_)
  · obtain ⟨_, _, _, _, _, _, rfl, _⟩ := h
    rfl
  · obtain ⟨wa, pw, pt, ws, T, k, rfl, hW, q⟩ := h
    obtain ⟨dx, h1⟩ := hW.ins
    have hu := hu_of hr
    refine ⟨_, (pss_cons (ps_set (i := 2) sc_Worlds_inputs_in.nd rfl (Or.inl rfl) (pe_lst pa_nil))
      (pss_cons (ps_for PassesOwn.never rfl (pi_reversed (by rfl) b_reversed (pa_cons (pe_fld (pv 0) rfl) pa_nil)) (pg_name (i := 3) sc_Worlds_inputs_in.nd rfl (Or.inl rfl))
      (pss_cons (ps_set (i := 2) sc_Worlds_inputs_in.nd rfl (Or.inl rfl) (pe_op op_cat (pe_lst (pa_cons (pe_op op_and (pv 1) (pe_op op_sub (pe_op op_shl pe_int (pv 3)) pe_int)) pa_nil)) (pv 2)))
      (pss_one (ps_set (i := 1) sc_Worlds_inputs_in.nd rfl (Or.inl rfl) (pe_op op_shr (pv 1) (pv 3))))))
      (pss_one (ps_ret (pv 2))))), ?_⟩
    refine ⟨Nat.zero_le _, fun G0 hG0 => ?_⟩
    have s0 := same_upd (o := .lst []) hG0
    refine ⟨_, rfl, wa, CW, dx, _, _, rfl, s0 _ _ h1, T_Worlds.cl, T_Worlds.nW, wF_widths _ _ _, pw, _, rfl, .inl (.inl (s0 _ _ hW.wl)), ?_⟩
    refine for_it (walk_rev (K := K) (a := pw) (xs := lits ws))
      (fun i σ H1 => Same H H1 ∧ ∃ (g : Addr) (v3 : Option V), σ = [some (.ref wa), some (.int ((k / 2 ^ (ws.drop (ws.length - i)).sum : Nat) : Int)), some (.ref g), v3] ∧ H g = none ∧ H1 g = some (.lst (lits (BS.rowAt (ws.drop (ws.length - i)) k))))
      ⟨s0, G0, none, ?_, hG0, ?_⟩ (fun i σ H1 _ h => .inl (.inl (h.1 _ _ hW.wl))) ?_ ?_
    · rw [Nat.sub_zero, List.drop_length]
      show _ = [_, some (V.int ((k / 1 : Nat) : Int)), _, _]
      rw [Nat.div_one]
      rfl
    · rw [Nat.sub_zero, List.drop_length]
      exact upd_same
    · rintro i v σ H1 H2 hi ⟨s1, g, v3, rfl, hg, eg⟩ ⟨rfl, hx'⟩
      obtain ⟨x, hx, rfl⟩ := lits_at hx'
      rw [lits_len] at hi hx
      rw [show ws.length - 1 - i = ws.length - (i + 1) by omega] at hx
      have ed : ws.drop (ws.length - (i + 1)) = x :: ws.drop (ws.length - i) := by
        rw [drop_at hx]
        congr 2
        omega
      have hx10 : x ≤ 10 := Nat.le_trans (BS.le_sum (List.mem_of_getElem? hx)) hW.le
      have few := hW.few
      have hL : (100 : Nat) ≤ LIM := by decide
      generalize hu2 : ws.drop (ws.length - i) = u at ed eg
      have hul : u.length ≤ 30 := by rw [← hu2, List.length_drop]; omega
      refine ⟨_, rfl, _, rfl, _, _, rfl, rfl, ⟨by omega, by omega, by decide⟩, _, _, rfl, rfl, _, _, rfl, rfl, (by show 1 ≤ sizeLine; decide), fun c hc => ?_⟩
      have ne : g ≠ c := ne_of_none eg hc
      refine ⟨_, rfl, c, g, _, _, rfl, rfl, upd_same, by rw [upd_ne ne]; exact eg, ?_, fun d hd => ?_⟩
      · exact Nat.le_of_lt (lim_lt (by rw [lits_len, BS.rowAt_len]; show 1 + _ ≤ _; omega))
      have sc := s1.trans ((same_upd (o := .lst [.int (Builtin.bitAnd ((k / 2 ^ u.sum : Nat) : Int) (1 * 2 ^ ((x : Int)).toNat - 1))]) hc).trans (same_upd (o := .lst ([.int (Builtin.bitAnd ((k / 2 ^ u.sum : Nat) : Int) (1 * 2 ^ ((x : Int)).toNat - 1))] ++ lits (BS.rowAt u k))) hd))
      refine ⟨_, rfl, _, rfl, _, _, rfl, rfl, by omega, sc, d, some (.int x), ?_, (s1.trans (same_upd hc)).free hd, ?_⟩
      · rw [ed, List.sum_cons]
        show [_, some (V.int (((k / 2 ^ u.sum : Nat) : Int) / 2 ^ ((x : Int)).toNat)), _, _] = _
        rw [shrN, Nat.div_div_eq_div_mul, ← Nat.pow_add, Nat.add_comm u.sum]
      · rw [upd_same, ed]
        show some (HO.lst (V.int _ :: lits (BS.rowAt u k))) = some (HO.lst (V.int _ :: lits (BS.rowAt u k)))
        have hmk := Bits.bitAnd_mask (x := ((k / 2 ^ u.sum : Nat) : Int)) x (Int.natCast_nonneg _)
        rw [Int.toNat_natCast, Int.one_mul, hmk]
        congr 4
    · rintro σ H1 ⟨s1, g, v3, rfl, hg, eg⟩
      rw [lits_len, Nat.sub_self, List.drop_zero] at eg
      exact ⟨_, rfl, q g H1 s1 hg eg⟩

abbrev s_inputs_told : Stmt := top 12
abbrev N_inputs_told : List Str := ["worlds", "world", "given"]
theorem sc_inputs_told : FnScope N_inputs_told ["worlds", "world"] (defScope s_inputs_told) := ⟨rfl, rfl, rfl, by decide +kernel, rfl, by decide +kernel, by decide +kernel⟩
theorem ok_inputs_told (F : Fun K "inputs_told" "inputs_told" s_inputs_told f fd) (D_inputs_in : DM P w K mg base CW 1 "inputs_in" (spIn CW)) (b_len : mg "len" = none) : FnOk P w K mg base CX0 2 f fd ["worlds", "world"] (spTold CW) := by
  refine F.ok sc_inputs_told (fun vs H Q E h => ?_) (fun cdv A outer s H vs Q E hr h => ?_)
  · obtain ⟨_, _, _, _, _, _, rfl, _⟩ := h
    rfl
  · obtain ⟨wa, pw, pt, ws, T, k, rfl, hW, q⟩ := h
    obtain ⟨dx, h1⟩ := hW.ins
    have hu := hu_of hr
    refine ⟨_, (pss_cons (ps_set (i := 2) sc_inputs_told.nd rfl (Or.inl rfl) (pe_dm (pv 0) D_inputs_in hr (pa_cons (pv 1) pa_nil)))
      (pss_one (ps_ret (pe_op op_cat (pe_lst (pa_cons (pe_callB call_len_seq (by rfl) b_len PySem.boot_len (pa_cons (pv 2) pa_nil)) pa_nil)) (pv 2))))), ?_⟩
    have few := hW.few
    have hL : (100 : Nat) ≤ LIM := by decide
    refine ⟨_, rfl, wa, dx, _, rfl, h1, by rfl, _, rfl, wa, pw, pt, ws, T, k, rfl, hW, fun g H1 s1 hg eg => ?_⟩
    refine ⟨_, rfl, g, _, rfl, .inl (.inl (.inl eg)), (by show 1 ≤ sizeLine; decide), fun c hc => ?_⟩
    have ne : g ≠ c := ne_of_none eg hc
    refine ⟨_, rfl, c, g, _, _, rfl, rfl, upd_same, by rw [upd_ne ne]; exact eg, ?_, fun d hd => ?_⟩
    · exact Nat.le_of_lt (lim_lt (by rw [lits_len, BS.rowAt_len]; show 1 + _ ≤ _; omega))
    rw [lits_len, BS.rowAt_len] at hd ⊢
    exact new_of q (s1.trans (same_upd hc)) hd
end
end BC

set_option Elab.async false
set_option linter.all false
set_option maxRecDepth 100000
set_option maxHeartbeats 2000000
namespace BC
open PySem PySem.Spec PyProof.Rows L2
/-! ### the state, where a new object is written -/
/-- all that isn't a new object of this class stays -/
def But (p : Addr) (H H' : Hp) : Prop := ∀ b o, H b = some o → b ≠ p → H' b = some o
theorem But.refl {p : Addr} {H : Hp} : But p H H := fun _ _ e _ => e
theorem But.of {p : Addr} {H H' : Hp} (s : Same H H') : But p H H' := fun b o e _ => s b o e
theorem But.trans {p : Addr} {H H1 H2 : Hp} (a : But p H H1) (b : But p H1 H2) : But p H H2 := fun c o e n => b c o (a c o e n) n
theorem But.upd {p : Addr} {H H1 : Hp} {o : HO} (a : But p H H1) : But p H (upd H1 p o) := fun b x e n => by rw [upd_ne n]; exact a b x e n
theorem But.new {p q : Addr} {H H1 : Hp} {o : HO} (a : But p H H1) (hq : H q = none) : But p H (L2.upd H1 q o) := fun b x e n => by
  rw [upd_ne (ne_of_none e hq)]
  exact a b x e n
theorem But.free {p q : Addr} {H H1 : Hp} (a : But p H H1) (hq : H1 q = none) (n : q ≠ p) : H q = none := by
  cases e : H q with
  | none => rfl
  | some o => rw [a q o e n] at hq; cases hq
section
variable {CS CG C : Addr} {A : Ad} {H H' : Hp} {s : Sm03.St} {p dx ga n k : Addr} {g : Graph}
theorem GAt.but (h : GAt CG ga n k H g) (m : But p H H') (hp : H p = some (.ins C dx [])) : GAt CG ga n k H' g := by
  obtain ⟨d1, h1⟩ := h.ins
  obtain ⟨vs, h2, h3⟩ := h.nodes
  have gp : ga ≠ p := ne_of h1 hp (by intro z; injection z with _ _ z; cases z)
  exact ⟨⟨d1, m _ _ h1 gp⟩, ⟨vs, m _ _ h2 (ne_of h2 hp (by intro z; cases z)), h3.mono fun q xs e => m _ _ e (ne_of e hp (by intro z; cases z))⟩, m _ _ h.known (ne_of h.known hp (by intro z; cases z)), h.uniq⟩
theorem SAt.but (h : SAt CS CG A H s) (m : But p H H') (hp : H p = some (.ins C dx [])) : SAt CS CG A H' s := by
  obtain ⟨d1, h1⟩ := h.ins
  obtain ⟨rs, h2, h3⟩ := h.terms
  obtain ⟨ms, h4, h5⟩ := h.marks
  have lst : ∀ {r : Addr} {xs : List V}, H r = some (.lst xs) → H' r = some (.lst xs) := fun e => m _ _ e (ne_of e hp (by intro z; cases z))
  have gp : A.sa ≠ p := ne_of h1 hp (by intro z; injection z with _ _ z; cases z)
  exact ⟨⟨d1, m _ _ h1 gp⟩, h.gat.but m hp, ⟨rs, lst h2, h3.mono fun r xs _ e => lst e⟩, lst h.inputs, lst h.claims, ⟨ms, lst h4, h5.mono fun r xs e => m _ _ e (ne_of e hp (by intro z; cases z))⟩, h.d1, h.d2, h.ml, h.ch⟩
end
theorem Nds.at {H : Hp} {vs : List V} {g : Graph} (h : Nds H vs g) : ∀ {i : Nat} {v : V}, vs[i]? = some v → (g[i]? = some .bit ∧ v = .non) ∨ ∃ (p : Addr) (a b : Nat), g[i]? = some (.gate a b) ∧ v = .ref p ∧ H p = some (.tup [.int a, .int b]) := by
  induction h with
  | nil => intro i v e; cases e
  | bit t ih =>
    intro i v e
    cases i with
    | zero => injection e with e; exact .inl ⟨rfl, e.symm⟩
    | succ i => exact ih (i := i) e
  | gate h t ih =>
    intro i v e
    cases i with
    | zero => injection e with e; exact .inr ⟨_, _, _, rfl, e.symm, h⟩
    | succ i => exact ih (i := i) e
theorem wF_new (pw pt : Addr) (am : Nat) : putF "tables" (.ref pt) (putF "everywhere" (.int ((2 ^ am - 1 : Nat) : Int)) (putF "amount" (.int (am : Int)) (putF "widths" (.ref pw) []))) = wF pw pt am := by
  have go : ∀ {f g : Str} {v x : V} {r : List (Str × V)}, g ≠ f → putF f v ((g, x) :: r) = (g, x) :: putF f v r := fun h => by
    show (if _ then _ else _) = _
    rw [if_neg h]
  have e1 : putF "widths" (.ref pw) [] = [(("widths" : Str), V.ref pw)] := rfl
  rw [e1, go (by decide +kernel)]
  have e2 : putF "amount" (.int (am : Int)) [] = [(("amount" : Str), V.int (am : Int))] := rfl
  rw [e2]
  have e3 : putF "everywhere" (.int ((2 ^ am - 1 : Nat) : Int)) [] = [(("everywhere" : Str), V.int ((2 ^ am - 1 : Nat) : Int))] := rfl
  have g1 : ∀ {x : V} {r : List (Str × V)} {v : V}, putF "everywhere" v (("widths", x) :: r) = (("widths" : Str), x) :: putF "everywhere" v r := go (by decide +kernel)
  have g2 : ∀ {x : V} {r : List (Str × V)} {v : V}, putF "everywhere" v (("amount", x) :: r) = (("amount" : Str), x) :: putF "everywhere" v r := go (by decide +kernel)
  have g3 : ∀ {x : V} {r : List (Str × V)} {v : V}, putF "tables" v (("widths", x) :: r) = (("widths" : Str), x) :: putF "tables" v r := go (by decide +kernel)
  have g4 : ∀ {x : V} {r : List (Str × V)} {v : V}, putF "tables" v (("amount", x) :: r) = (("amount" : Str), x) :: putF "tables" v r := go (by decide +kernel)
  have g5 : ∀ {x : V} {r : List (Str × V)} {v : V}, putF "tables" v (("everywhere", x) :: r) = (("everywhere" : Str), x) :: putF "tables" v r := go (by decide +kernel)
  rw [g1, g2, e3, g3, g4, g5]
  rfl
/-- the places of the inputs' bits, so far -/
structure Plc (es : List Entry) (J i : Nat) (kvs : List (Key × V)) : Prop where
  at_ : ∀ (j I x : Nat) (w : List Nat), j < J ∨ (j = J ∧ I < i) → (BS.inpW es)[j]? = some w → w[I]? = some x → valV kvs (Sum.inl (x : Int)) = some (.int ((BS.below es j + I : Nat) : Int))
  len : kvs.length ≤ J * 8 + i
theorem Plc.start {es : List Entry} : Plc es 0 0 [] := ⟨fun j I x w h => by omega, Nat.le_refl _⟩
theorem Plc.put {g : Graph} {es : List Entry} {J i x : Nat} {w : List Nat} {kvs : List (Key × V)} (h : Plc es J i kvs) (gd : BS.Good g es) (h1 : (BS.inpW es)[J]? = some w) (h2 : w[i]? = some x) :
    Plc es J (i + 1) (putK kvs (Sum.inl (x : Int)) (.int ((BS.below es J + i : Nat) : Int))) := by
  refine ⟨fun j I y u hj e1 e2 => ?_, by have := length_putK kvs (Sum.inl (x : Int)) (V.int ((BS.below es J + i : Nat) : Int)); have := h.len; omega⟩
  rw [valV_put]
  by_cases e : y = x
  · subst e
    obtain ⟨rfl, rfl⟩ := gd.once e1 e2 h1 h2
    rw [if_pos rfl]
  · rw [if_neg (fun z => e (by injection z with z; omega))]
    refine h.at_ j I y u ?_ e1 e2
    rcases hj with hj | ⟨rfl, hj⟩
    · exact .inl hj
    · by_cases hI : I = i
      · subst hI
        rw [h1] at e1
        injection e1 with e1
        subst e1
        rw [h2] at e2
        injection e2 with e2
        exact (e e2.symm).elim
      · exact .inr ⟨rfl, by omega⟩
theorem Plc.next {es : List Entry} {J i : Nat} {w : List Nat} {kvs : List (Key × V)} (h : Plc es J i kvs) (h1 : (BS.inpW es)[J]? = some w) (hi : w.length = i) (h8 : i ≤ 8) : Plc es (J + 1) 0 kvs := by
  refine ⟨fun j I y u hj e1 e2 => h.at_ j I y u ?_ e1 e2, by have := h.len; omega⟩
  by_cases hJ : j < J
  · exact .inl hJ
  · have : j = J := by omega
    subst this
    rw [h1] at e1
    injection e1 with e1
    subst e1
    exact .inr ⟨rfl, by have := (List.getElem?_eq_some_iff.mp e2).1; omega⟩
theorem inIdx_at {es : List Entry} {J x : Nat} (h : (inIdx 0 es)[J]? = some x) : (BS.inpW es)[J]? = some (Sm03.wordOf es x) := by
  rw [← in_words0, List.getElem?_map, h]
  rfl
theorem inIdx_w {es : List Entry} (hw : InW es) {J x : Nat} (h : (inIdx 0 es)[J]? = some x) : (Sm03.inputs es)[J]? = some (Sm03.widthOf es x) := by
  rw [← in_widths0 hw, List.getElem?_map, h]
  rfl
theorem inIdx_in {es : List Entry} {J x : Nat} (h : (inIdx 0 es)[J]? = some x) : x < es.length := by
  have := (inIdx_lt es 0 x (List.mem_of_getElem? h)).2
  omega
end BC

set_option Elab.async false
set_option linter.all false
set_option maxRecDepth 100000
set_option maxHeartbeats 2000000
namespace BC
open PySem PySem.Spec PyProof.Rows L2
section
variable {P : Program} {w : World} {K : PySem.W.Frag} {mg : Str → Option Value} {base : Heap} {CG CS CW : Addr} {f : Addr} {fd : FuncData}
abbrev s_places_of_bits : Stmt := top 8
abbrev N_places_of_bits : List Str := ["state", "places", "below", "name", "i", "literal"]
theorem sc_places_of_bits : FnScope N_places_of_bits ["state"] (defScope s_places_of_bits) := ⟨rfl, rfl, rfl, by decide +kernel, rfl, by decide +kernel, by decide +kernel⟩
theorem ok_places_of_bits (F : Fun K "places_of_bits" "places_of_bits" s_places_of_bits f fd) (D_bits_of_inputs : DM P w K mg base CS 2 "bits_of_inputs" (spBits CS CG)) (T_State : TState K CS) (D_width : DM P w K mg base CS 1 "width" (spWidth CS CG)) (b_enumerate : mg "enumerate" = none) : FnOk P w K mg base CX0 3 f fd ["state"] (spPlaces CS CG) := by
  refine F.ok sc_places_of_bits (fun vs H Q E h => ?_) (fun cdv A outer s H vs Q E hr h => ?_)
  · obtain ⟨_, _, rfl, _⟩ := h
    rfl
  · obtain ⟨A, s, rfl, hS, q⟩ := h
    have hu := hu_of hr
    refine ⟨_, (pss_cons (ps_set (i := 1) sc_places_of_bits.nd rfl (Or.inl rfl) pe_dnewK)
      (pss_cons (ps_set (i := 2) sc_places_of_bits.nd rfl (Or.inl rfl) (pe_dm0 (pv 0) D_bits_of_inputs hr))
      (pss_cons (ps_for PassesOwn.never rfl (pi_list (pe_fld (pv 0) rfl)) (pg_name (i := 3) sc_places_of_bits.nd rfl (Or.inl rfl))
      (pss_cons (ps_set (i := 2) sc_places_of_bits.nd rfl (Or.inl rfl) (pe_op op_sub (pv 2) (pe_dm (pv 0) D_width (hr.mono (by decide)) (pa_cons (pv 3) pa_nil))))
      (pss_one (ps_for PassesOwn.never rfl (pi_enum (by rfl) b_enumerate (pa_cons (pe_ix ix_list (pe_fld (pv 0) rfl) (pv 3) (fun _ _ => rfl)) pa_nil)) (pg_tup rfl (pgs_cons (pg_name (i := 4) sc_places_of_bits.nd rfl (Or.inl rfl)) (pgs_cons (pg_name (i := 5) sc_places_of_bits.nd rfl (Or.inl rfl)) pgs_nil)))
      (pss_one (ps_dput hu (pv 1) (pv 5) (pe_op op_add (pv 2) (pv 4)) rfl))))))
      (pss_one (ps_ret (pv 1)))))), ?_⟩
    have hW := hS.wf
    intro d hd
    have s0 := same_upd (o := .dK []) hd
    have hS0 := hS.same s0
    obtain ⟨dx0, h10⟩ := hS0.ins
    refine ⟨_, rfl, A.sa, dx0, _, rfl, h10, by rfl, A, s, rfl, hS0, fun H1 s1 => ?_⟩
    have hS1 := hS0.same s1
    obtain ⟨dx1, h11⟩ := hS1.ins
    have s01 := s0.trans s1
    have hd1 : H1 d = some (.dK []) := s1 _ _ upd_same
    rw [total_sum]
    refine ⟨_, rfl, A.sa, CS, dx1, _, _, rfl, h11, T_State.cl, T_State.nI, sF_inputs A, A.pi, rfl, ⟨_, .inl (.inl hS1.inputs)⟩, ?_⟩
    have tl := hW.tl
    have il : (inIdx 0 s.now.terms).length ≤ 30 := by rw [inIdx_len]; exact inp_few hW
    have hL : (1000 : Nat) ≤ LIM := by decide
    refine for_it (walk_list (K := K) (a := A.pi) (xs := lits (inIdx 0 s.now.terms)))
      (fun J σ H2 => Same H H2 ∧ ∃ (kvs : List (Key × V)) (v3 v4 v5 : Option V), σ = [some (.ref A.sa), some (.ref d), some (.int ((((Sm03.inputs s.now.terms).drop J).sum : Nat) : Int)), v3, v4, v5] ∧ H2 d = some (.dK kvs) ∧ Plc s.now.terms J 0 kvs)
      ⟨s01, [], none, none, none, rfl, hd1, Plc.start⟩ (fun J σ H2 _ h => .inl (.inl (h.1 _ _ hS.inputs))) ?_ ?_
    · rintro J v σ H2 H3 hJ ⟨s2, kvs, v3, v4, v5, rfl, hd2, hP⟩ ⟨rfl, hx'⟩
      obtain ⟨x, hx, rfl⟩ := lits_at hx'
      rw [lits_len] at hJ
      have hxt := inIdx_in hx
      have hxw := inIdx_at hx
      have hxi := inIdx_w hW.iw hx
      have hS2 := hS.same s2
      obtain ⟨dx2, h12⟩ := hS2.ins
      have w8 := hW.width hxt
      have ed : ((Sm03.inputs s.now.terms).drop J).sum = Sm03.widthOf s.now.terms x + BS.below s.now.terms J := by
        rw [drop_at hxi, List.sum_cons]
        rfl
      refine ⟨_, rfl, _, rfl, A.sa, dx2, _, rfl, h12, by rfl, _, rfl, A, s, x, rfl, hS2, hxt, _, _, rfl, rfl, ?_⟩
      have ez : ((((Sm03.inputs s.now.terms).drop J).sum : Nat) : Int) - ((Sm03.widthOf s.now.terms x : Nat) : Int) = ((BS.below s.now.terms J : Nat) : Int) := by omega
      obtain ⟨rs, r, h3, h4, h5⟩ := hS2.word hxt
      refine ⟨_, rfl, A.sa, CS, dx2, _, _, rfl, h12, T_State.cl, T_State.nT, sF_terms A, _, rfl, A.pt, _, _, _, rfl, rfl, .inl (.inl h3), atI_nat h4, r, _, rfl, .inl (.inl h5.1), ?_⟩
      refine for_it (walk_enum (K := K) (a := r) (xs := lits (Sm03.wordOf s.now.terms x)))
        (fun i σ H3 => Same H H3 ∧ H3 r = some (.lst (lits (Sm03.wordOf s.now.terms x))) ∧ ∃ (kvs : List (Key × V)) (v4 v5 : Option V), σ = [some (.ref A.sa), some (.ref d), some (.int (((((Sm03.inputs s.now.terms).drop J).sum : Nat) : Int) - ((Sm03.widthOf s.now.terms x : Nat) : Int))), some (.int (x : Int)), v4, v5] ∧ H3 d = some (.dK kvs) ∧ Plc s.now.terms J i kvs)
        ⟨s2, h5.1, kvs, v4, v5, rfl, hd2, hP⟩ (fun i σ H3 _ h => .inl (.inl h.2.1)) ?_ ?_
      · rintro i v σ H3 H4 hi ⟨s3, hr3, kvs, v4, v5, rfl, hd3, hP⟩ ⟨U, x', y', rfl, hU, rfl, hx', hy'⟩
        obtain ⟨y, hy, rfl⟩ := lits_at hy'
        injection hx' with hx'
        subst hx'
        rw [lits_len] at hi
        have kl := hP.len
        have dU : d ≠ U := ne_of_none hd3 hU
        refine ⟨U, [.int i, .int y], rfl, .inl (.inl upd_same), rfl, _, _, rfl, _, _, rfl, rfl, ?_⟩
        refine ⟨_, rfl, _, rfl, _, _, rfl, rfl, _, rfl, _, rfl, d, _, rfl, DPut.k (k := Sum.inl (y : Int)) (by rw [upd_ne dU]; exact hd3) (lim_lt (by omega)), ?_⟩
        refine ⟨same_updN (s3.trans (same_upd hU)) hd, ?_, _, some (.int i), some (.int y), rfl, ?_, hP.put hW.gd hxw hy⟩
        · rw [upd_ne (ne_of hr3 hd3 (by intro z; cases z)), upd_ne (ne_of_none hr3 hU)]
          exact hr3
        · rw [upd_same]
          show some (HO.dK (putK kvs (Sum.inl (y : Int)) (V.int (((((Sm03.inputs s.now.terms).drop J).sum : Nat) : Int) - ((Sm03.widthOf s.now.terms x : Nat) : Int) + (i : Int))))) = _
          rw [ez, Int.natCast_add]
      · rintro σ H3 ⟨s3, hr3, kvs, v4, v5, rfl, hd3, hP⟩
        rw [lits_len] at hP
        refine ⟨s3, kvs, some (.int x), v4, v5, ?_, hd3, hP.next hxw rfl w8.2⟩
        rw [ez]
        rfl
    · rintro σ H2 ⟨s2, kvs, v3, v4, v5, rfl, hd2, hP⟩
      refine ⟨_, rfl, q d H2 kvs s2 hd hd2 fun J I x w h1 h2 => hP.at_ J I x w (.inl ?_) h1 h2⟩
      have := (List.getElem?_eq_some_iff.mp h1).1
      rw [← in_words0, List.length_map] at this
      rw [lits_len]
      exact this
end
end BC

set_option Elab.async false
set_option linter.all false
set_option maxRecDepth 100000
set_option maxHeartbeats 2000000
namespace BC
open PySem PySem.Spec PyProof.Rows L2
/-! ### Worlds made -/
theorem made_same {x dx C : Addr} {H1 H' : Hp} (m : But x (upd (upd H1 dx (.own x)) x (.ins C dx [])) H') (hx : H1 x = none) (hd : H1 dx = none) : Same H1 H' := fun b o e =>
  m b o (by rw [upd_ne (ne_of_none e hx), upd_ne (ne_of_none e hd)]; exact e) (ne_of_none e hx)
theorem made_sat {CS CG C : Addr} {A : Ad} {H : Hp} {s : Sm03.St} {x dx : Addr} (h : SAt CS CG A H s) (hx : H x = none) (hd : H dx = none) : SAt CS CG A (upd (upd H dx (.own x)) x (.ins C dx [])) s := by
  refine h.same fun b o e => ?_
  rw [upd_ne (ne_of_none e hx), upd_ne (ne_of_none e hd)]
  exact e
theorem ints_lits (ws : List Nat) : (Sm03.ints ws).map V.int = lits ws := by
  unfold Sm03.ints lits
  rw [List.map_map]
  rfl
theorem WAt.push {CW wa pw pt : Addr} {H : Hp} {ws T : List Nat} (h : WAt CW wa pw pt H ws T) (n : pw ≠ pt) (t : Nat) : WAt CW wa pw pt (upd H pt (.lst (lits T ++ [.int (t : Int)]))) ws (T ++ [t]) := by
  obtain ⟨dx, h1⟩ := h.ins
  refine ⟨⟨dx, ?_⟩, ?_, ?_, h.le, h.few⟩
  · rw [upd_ne (ne_of h1 h.tl (by intro z; cases z))]; exact h1
  · rw [upd_ne n]; exact h.wl
  · rw [upd_same, lits_app]; rfl
/-! ### what is asked, by the tables -/
theorem step_decide {s : Sm03.St} {F : Nat} (h : ∀ k, k < 2 ^ (Sm03.inputs s.now.terms).sum → F.testBit k = Sm03.fits s.now.terms s.now.claims (BS.rowAt (Sm03.inputs s.now.terms) k)) :
    Sm03.step s .decide = (s, match (BS.hits (Sm03.inputs s.now.terms) F).head? with
      | some k => 1 :: ((Sm03.inputs s.now.terms).length : Int) :: Sm03.ints (BS.rowAt (Sm03.inputs s.now.terms) k)
      | none => [0]) := by
  show (s, match (Sm03.rowsOf (Sm03.inputs s.now.terms)).find? (Sm03.fits s.now.terms s.now.claims) with
    | some r => 1 :: (r.length : Int) :: Sm03.ints r
    | none => [0]) = _
  rw [BS.find_rows h]
  cases (BS.hits (Sm03.inputs s.now.terms) F).head? with
  | none => rfl
  | some k =>
    show (s, 1 :: ((BS.rowAt (Sm03.inputs s.now.terms) k).length : Int) :: _) = _
    rw [BS.rowAt_len]
theorem step_same {s : Sm03.St} {F t u : Nat} (ht : t < s.now.terms.length) (hu : u < s.now.terms.length) (hw : Sm03.widthOf s.now.terms t = Sm03.widthOf s.now.terms u)
    (h : ∀ k, k < 2 ^ (Sm03.inputs s.now.terms).sum → F.testBit k = (Sm03.fits s.now.terms s.now.claims (BS.rowAt (Sm03.inputs s.now.terms) k) && ((Sm03.values s.now.terms (BS.rowAt (Sm03.inputs s.now.terms) k)).getD t 0 != (Sm03.values s.now.terms (BS.rowAt (Sm03.inputs s.now.terms) k)).getD u 0))) :
    Sm03.step s (.same t u) = (s, match (BS.hits (Sm03.inputs s.now.terms) F).head? with
      | some k => 0 :: ((Sm03.inputs s.now.terms).length : Int) :: Sm03.ints (BS.rowAt (Sm03.inputs s.now.terms) k)
      | none => [1]) := by
  show (s, if Sm03.there s.now.terms t = false ∨ Sm03.there s.now.terms u = false then [-2] else if Sm03.widthOf s.now.terms t ≠ Sm03.widthOf s.now.terms u then [-1] else match (Sm03.rowsOf (Sm03.inputs s.now.terms)).find? (fun r => Sm03.fits s.now.terms s.now.claims r && ((Sm03.values s.now.terms r).getD t 0 != (Sm03.values s.now.terms r).getD u 0)) with
    | some r => 0 :: (r.length : Int) :: Sm03.ints r
    | none => [1]) = _
  rw [if_neg (by rw [th_t ht, th_t hu]; simp), if_neg (fun z => z hw), BS.find_rows (P := fun r => Sm03.fits s.now.terms s.now.claims r && ((Sm03.values s.now.terms r).getD t 0 != (Sm03.values s.now.terms r).getD u 0)) h]
  cases (BS.hits (Sm03.inputs s.now.terms) F).head? with
  | none => rfl
  | some k =>
    show (s, 0 :: ((BS.rowAt (Sm03.inputs s.now.terms) k).length : Int) :: _) = _
    rw [BS.rowAt_len]
theorem step_count {s : Sm03.St} {F : Nat} (h : ∀ k, k < 2 ^ (Sm03.inputs s.now.terms).sum → F.testBit k = Sm03.fits s.now.terms s.now.claims (BS.rowAt (Sm03.inputs s.now.terms) k)) :
    Sm03.step s .count = (s, [((BS.hits (Sm03.inputs s.now.terms) F).length : Int)]) := by
  show (s, Sm03.ints [((Sm03.rowsOf (Sm03.inputs s.now.terms)).filter (Sm03.fits s.now.terms s.now.claims)).length]) = _
  rw [BS.filter_rows h, List.length_map]
  rfl
theorem step_range {CS CG CW wa pw pt : Addr} {A : Ad} {H : Hp} {s : Sm03.St} {T : List Nat} {F t : Nat} (hO : WOk CW wa pw pt H s.now T) (hW : WF s.now) (ht : t < s.now.terms.length)
    (h : ∀ k, k < 2 ^ (Sm03.inputs s.now.terms).sum → F.testBit k = Sm03.fits s.now.terms s.now.claims (BS.rowAt (Sm03.inputs s.now.terms) k)) :
    Sm03.step s (.range t) = (s, Sm03.ends ((BS.hits (Sm03.inputs s.now.terms) F).map fun k => BS.wv (BS.valT T k) (Sm03.wordOf s.now.terms t))) := by
  show (s, if Sm03.there s.now.terms t = false then [-2] else Sm03.ends (((Sm03.rowsOf (Sm03.inputs s.now.terms)).filter (Sm03.fits s.now.terms s.now.claims)).map fun r => (Sm03.values s.now.terms r).getD t 0)) = _
  rw [if_neg (by rw [th_t ht]; exact Bool.noConfusion), BS.filter_rows h, List.map_map]
  congr 2
  exact List.map_congr_left fun k hk => hO.tab.value hW.gd hW.iw (BS.hits_lt hk) ht
theorem told_list (c : Int) (n : Nat) (row : List Nat) : (c :: (n : Int) :: Sm03.ints row).map V.int = [.int c] ++ lits (n :: row) := by
  rw [List.map_cons, List.map_cons, ints_lits]
  rfl
theorem bits_gt (w v : Nat) : decide (((w : Nat) : Int) < ((Builtin.Int.intBits (v : Int) : Nat) : Int)) = !decide (v < 2 ^ w) := by
  have h : Builtin.Int.intBits (v : Int) ≤ w ↔ v < 2 ^ w := by
    have := KE_bits (m := w) (x := (v : Int))
    rw [Int.natAbs_natCast] at this
    exact this
  by_cases c : v < 2 ^ w
  · rw [decide_eq_true c, decide_eq_false (by have := h.mpr c; omega)]; rfl
  · rw [decide_eq_false c, decide_eq_true (by have := fun z => c (h.mp z); omega)]; rfl
theorem any_not {α : Type} (p : α → Bool) : ∀ l : List α, (l.map fun x => !p x).any id = !l.all p
  | [] => rfl
  | x :: r => by
    rw [List.map_cons, List.any_cons, any_not p r, List.all_cons]
    cases p x <;> rfl
theorem step_value {s : Sm03.St} {t : Nat} {l : List Nat} (ht : t < s.now.terms.length) : Sm03.step s (.value t l) = (s, if Sm03.areInputs s.now.terms l = false then [-1] else Sm03.ints [Sm03.flag (Sm03.fits s.now.terms s.now.claims l), (Sm03.values s.now.terms l).getD t 0]) := by
  show (s, if Sm03.there s.now.terms t = false then [-2] else _) = _
  rw [if_neg (by rw [th_t ht]; exact Bool.noConfusion)]
/-! ### promises: what is asked -/
def spDecide (CS CG : Addr) : Sp := fun vs H Q _ => ∃ (A : Ad) (s : Sm03.St) (nn : Addr), vs = [.ref A.sa, .ref nn] ∧ SAt CS CG A H s ∧ Ansd CS CG A H Q (Sm03.step s .decide)
def spSame (CS CG : Addr) : Sp := fun vs H Q _ => ∃ (A : Ad) (s : Sm03.St) (nn : Addr) (t u : Nat), vs = [.ref A.sa, .ref nn] ∧ SAt CS CG A H s ∧ H nn = some (.lst (lits [t, u])) ∧ Ansd CS CG A H Q (Sm03.step s (.same t u))
def spRange (CS CG : Addr) : Sp := fun vs H Q _ => ∃ (A : Ad) (s : Sm03.St) (nn : Addr) (t : Nat), vs = [.ref A.sa, .ref nn] ∧ SAt CS CG A H s ∧ H nn = some (.lst (lits [t])) ∧ Ansd CS CG A H Q (Sm03.step s (.range t))
def spCount (CS CG : Addr) : Sp := fun vs H Q _ => ∃ (A : Ad) (s : Sm03.St) (nn : Addr), vs = [.ref A.sa, .ref nn] ∧ SAt CS CG A H s ∧ Ansd CS CG A H Q (Sm03.step s .count)
def spUnW (CS CG : Addr) : Sp := fun vs H Q _ => ∃ (A : Ad) (s : Sm03.St) (p : Addr) (l : List Nat), vs = [.ref A.sa, .ref p] ∧ SAt CS CG A H s ∧ H p = some (.lst (lits l)) ∧ ∀ H', Same H H' → Q (.bl (!Sm03.areInputs s.now.terms l)) H'
def spValue (CS CG : Addr) : Sp := fun vs H Q _ => ∃ (A : Ad) (s : Sm03.St) (nn : Addr) (t : Nat) (l : List Nat), vs = [.ref A.sa, .ref nn] ∧ SAt CS CG A H s ∧ H nn = some (.lst (lits (t :: l))) ∧ Ansd CS CG A H Q (Sm03.step s (.value t l))
/-- one of the four calls from 13 on -/
def spAsk (CS CG : Addr) (c : Nat) : Sp := fun vs H Q _ => ∃ (A : Ad) (s : Sm03.St) (nn : Addr) (nums : List Nat) (x : Sm03.Call), vs = [.ref A.sa, .ref nn] ∧ SAt CS CG A H s ∧ H nn = some (.lst (lits nums)) ∧ BS.callNat (13 + c) nums [] = some x ∧ Ansd CS CG A H Q (Sm03.step s x)
def spAsking (CS CG : Addr) : Sp := fun vs H Q _ => ∃ (A : Ad) (s : Sm03.St) (c : Nat) (nn : Addr) (nums : List Nat) (x : Sm03.Call), vs = [.ref A.sa, .int c, .ref nn] ∧ SAt CS CG A H s ∧ c < 4 ∧ H nn = some (.lst (lits nums)) ∧ BS.callNat (13 + c) nums [] = some x ∧ Ansd CS CG A H Q (Sm03.step s x)
theorem ask0 {CS CG : Addr} (vs : List V) (H : Hp) (Q : VK) (E : XK) (h : spAsk CS CG 0 vs H Q E) : spDecide CS CG vs H Q E := by
  obtain ⟨A, s, nn, nums, x, e, hS, hn, hx, q⟩ := h
  match nums, hx with
  | [], hx => injection hx with hx; subst hx; exact ⟨A, s, nn, e, hS, q⟩
theorem ask1 {CS CG : Addr} (vs : List V) (H : Hp) (Q : VK) (E : XK) (h : spAsk CS CG 1 vs H Q E) : spSame CS CG vs H Q E := by
  obtain ⟨A, s, nn, nums, x, e, hS, hn, hx, q⟩ := h
  match nums, hx with
  | [t, u], hx => injection hx with hx; subst hx; exact ⟨A, s, nn, t, u, e, hS, hn, q⟩
theorem ask2 {CS CG : Addr} (vs : List V) (H : Hp) (Q : VK) (E : XK) (h : spAsk CS CG 2 vs H Q E) : spRange CS CG vs H Q E := by
  obtain ⟨A, s, nn, nums, x, e, hS, hn, hx, q⟩ := h
  match nums, hx with
  | [t], hx => injection hx with hx; subst hx; exact ⟨A, s, nn, t, e, hS, hn, q⟩
theorem ask3 {CS CG : Addr} (vs : List V) (H : Hp) (Q : VK) (E : XK) (h : spAsk CS CG 3 vs H Q E) : spCount CS CG vs H Q E := by
  obtain ⟨A, s, nn, nums, x, e, hS, hn, hx, q⟩ := h
  match nums, hx with
  | [], hx => injection hx with hx; subst hx; exact ⟨A, s, nn, e, hS, q⟩
/-- a literal's number, of a term's word -/
theorem WOk.in {CS CG CW wa pw pt : Addr} {A : Ad} {H : Hp} {s : Sm03.St} {T : List Nat} (h : WOk CW wa pw pt H s.now T) (hw : WF s.now) {t l : Nat} (hl : l ∈ Sm03.wordOf s.now.terms t) : l / 2 < T.length := by
  rw [h.tab.len]
  exact hw.lits hl
end BC

set_option Elab.async false
set_option linter.all false
set_option maxRecDepth 100000
set_option maxHeartbeats 2000000
namespace BC
open PySem PySem.Spec PyProof.Rows L2
section
variable {P : Program} {w : World} {K : PySem.W.Frag} {mg : Str → Option Value} {base : Heap} {CG CS CW : Addr} {f : Addr} {fd : FuncData}
abbrev s_WorldsI_initI : Stmt := inClass (top 10) 0
abbrev N_WorldsI_initI : List Str := ["self", "state", "places", "pair", "table", "name"]
theorem sc_WorldsI_initI : FnScope N_WorldsI_initI ["self", "state"] (defScope s_WorldsI_initI) := ⟨rfl, rfl, rfl, by decide +kernel, rfl, by decide +kernel, by decide +kernel⟩
theorem ok_WorldsI_initI (F : Fun K "__init__" "Worlds.__init__" s_WorldsI_initI f fd) (T_Worlds : TWorlds K CW) (T_State : TState K CS) (D_width : DM P w K mg base CS 1 "width" (spWidth CS CG)) (b_sum : mg "sum" = none) (D_places_of_bits : DF P w K mg base 3 "places_of_bits" (spPlaces CS CG)) (T_Gates : TGates K CG) (D_where_bit_is : DM P w K mg base CW 1 "where_bit_is" (spBitIs CW)) (b_len : mg "len" = none) (D_where : DM P w K mg base CW 1 "where" (spWhere CW)) : FnOk P w K mg base CX0 4 f fd ["self", "state"] (spWInit CS CG CW) := by
  refine F.ok sc_WorldsI_initI (fun vs H Q E h => ?_) (fun cdv A outer s H vs Q E hr h => ?_)
  · obtain ⟨_, _, _, _, rfl, _⟩ := h
    rfl
  · obtain ⟨p, dx, A, s, rfl, hp, hS, q⟩ := h
    obtain ⟨ds, h1⟩ := hS.ins
    have hu := hu_of hr
    refine ⟨_, (pss_cons (ps_fld (pv 0) (pe_lc (own := [("name", 5)]) (g := gName 5) (tt := tYes) rfl sc_WorldsI_initI.nd (pi_list (pe_fld (pv 1) rfl)) (blkOk_by (N := N_WorldsI_initI) (sc := defScope s_WorldsI_initI) (by decide +kernel)) (fun _ _ _ _ _ => (pg_name (i := 5) sc_WorldsI_initI.nd rfl (Or.inl rfl))) (fun _ _ _ _ _ => pts_nil) (fun _ _ _ _ _ => (pe_dm (pv 1) D_width (hr.mono (by decide)) (pa_cons (pv 5) pa_nil)))) rfl)
      (pss_cons (ps_fld (pv 0) (pe_op op_shl pe_int (pe_callB (cr_sum rfl) (by rfl) b_sum (by decide +kernel) (pa_cons (pe_fld (pv 0) rfl) pa_nil))) rfl)
      (pss_cons (ps_fld (pv 0) (pe_op op_sub (pe_op op_shl pe_int (pe_fld (pv 0) rfl)) pe_int) rfl)
      (pss_cons (ps_fld (pv 0) (pe_lst (pa_cons pe_int pa_nil)) rfl)
      (pss_cons (ps_set (i := 2) sc_WorldsI_initI.nd rfl (Or.inl rfl) (pe_df D_places_of_bits hr (pa_cons (pv 1) pa_nil)))
      (pss_one (ps_for PassesOwn.never rfl (pi_list (pe_fld (pe_fld (pv 1) rfl) rfl)) (pg_name (i := 3) sc_WorldsI_initI.nd rfl (Or.inl rfl))
      (pss_cons (ps_if (pt_cmpR op_isN (pv 3) pe_non (nomark _))
      (pss_one (ps_set (i := 4) sc_WorldsI_initI.nd rfl (Or.inl rfl) (pe_dm (pv 0) D_where_bit_is (hr.mono (by decide)) (pa_cons (pe_dget hu (pv 2) (pe_op op_mul pe_int (pe_callB call_len_seq (by rfl) b_len PySem.boot_len (pa_cons (pe_fld (pv 0) rfl) pa_nil))) (fun _ _ => rfl)) pa_nil))))
      (pss_one (ps_set (i := 4) sc_WorldsI_initI.nd rfl (Or.inl rfl) (pe_op op_and (pe_dm (pv 0) D_where (hr.mono (by decide)) (pa_cons (pe_ix ix_tup (pv 3) pe_int (fun _ _ => rfl)) pa_nil)) (pe_dm (pv 0) D_where (hr.mono (by decide)) (pa_cons (pe_ix ix_tup (pv 3) pe_int (fun _ _ => rfl)) pa_nil))))))
      (pss_one (ps_expr (pe_bm PySem.F.plainAttrs_list PySem.F.slot_list_append PySem.F.type_list_append mt_append (pe_fld (pv 0) rfl) (pa_cons (pv 4) pa_nil)))))))))))), ?_⟩
    have hW := hS.wf
    have il : (inIdx 0 s.now.terms).length ≤ 30 := by rw [inIdx_len]; exact inp_few hW
    have hL : (2000 : Nat) ≤ LIM := by decide
    refine ⟨_, rfl, A.sa, CS, ds, _, _, rfl, h1, T_State.cl, T_State.nI, sF_inputs A, A.pi, rfl, ⟨_, .inl (.inl hS.inputs)⟩, fun pw hpw => ?_⟩
    refine lc_map (walk_list (K := K) (a := A.pi) (xs := lits (inIdx 0 s.now.terms))) (lits (Sm03.inputs s.now.terms)) (by rw [lits_len, lits_len, inIdx_len]) (by rw [lits_len]; omega) hpw (fun H1 s1 => .inl (.inl (s1 _ _ hS.inputs))) ?_ ?_
    · rintro i v H1 H2 y hi s1 ⟨rfl, hx'⟩ hy R N r
      obtain ⟨x, hx, rfl⟩ := lits_at hx'
      obtain ⟨z, hz, rfl⟩ := lits_at hy
      rw [inIdx_w hW.iw hx] at hz
      injection hz with hz
      subst hz
      have hS1 := hS.same s1
      obtain ⟨dx1, h11⟩ := hS1.ins
      refine ⟨rfl, yes_of (if_true_of rfl ?_)⟩
      exact ⟨_, rfl, A.sa, dx1, _, rfl, h11, by rfl, _, rfl, A, s, x, rfl, hS1, inIdx_in hx, r _ (Same.refl _)⟩
    intro H1 s1 e1
    have lk : ∀ {f : Str} {v : V} {fs : List (Str × V)}, (putF f v fs).lookup f = some v := fun {f v fs} => by rw [lookup_putF, if_pos rfl]
    have pwp : pw ≠ p := (ne_of_none hp hpw).symm
    have hs10 := inp_sum hW
    have ham := am_le hs10
    have ea : (1 : Int) * 2 ^ (((Sm03.inputs s.now.terms).map fun (x : Nat) => (x : Int)).sum).toNat = ((2 ^ (Sm03.inputs s.now.terms).sum : Nat) : Int) := by rw [sum_cast, Int.toNat_natCast, Int.one_mul, Int.natCast_pow]; rfl
    have ee : ∀ am : Nat, (1 : Int) * 2 ^ ((am : Int)).toNat - 1 = ((2 ^ am - 1 : Nat) : Int) := fun am => by
      have : 1 ≤ 2 ^ am := Nat.one_le_two_pow
      rw [Int.toNat_natCast, Int.one_mul, Int.natCast_sub this, Int.natCast_pow]; rfl
    refine ⟨_, rfl, p, CW, dx, [], rfl, s1 _ _ hp, T_Worlds.cl, T_Worlds.nW, (by show 0 < 1000; decide), ?_⟩
    refine ⟨_, rfl, p, CW, dx, _, _, rfl, upd_same, T_Worlds.cl, T_Worlds.nW, lk, pw, (Sm03.inputs s.now.terms).map (fun (x : Nat) => (x : Int)), rfl, .inl (.inl ?_), _, _, rfl, rfl, ?_, ?_⟩
    · rw [upd_ne pwp, List.map_map]; exact e1
    · rw [sum_cast]; exact ⟨by omega, by omega, by decide⟩
    dsimp only
    rw [ea]
    generalize hA : 2 ^ (Sm03.inputs s.now.terms).sum = am at ham ⊢
    refine ⟨_, rfl, p, CW, dx, _, rfl, upd_same, T_Worlds.cl, T_Worlds.nA, (by show 1 < 1000; decide), ?_⟩
    refine ⟨_, rfl, p, CW, dx, _, _, rfl, upd_same, T_Worlds.cl, T_Worlds.nA, lk, _, _, rfl, rfl, ⟨by omega, by omega, by decide⟩, _, _, rfl, rfl, ?_⟩
    dsimp only
    rw [ee]
    refine ⟨_, rfl, p, CW, dx, _, rfl, upd_same, T_Worlds.cl, T_Worlds.nE, (by show 2 < 1000; decide), ?_⟩
    refine ⟨(by show 1 ≤ sizeLine; decide), fun pt hpt => ?_⟩
    obtain ⟨hpt1, ptp⟩ := free_upd hpt
    obtain ⟨hpt2, _⟩ := free_upd hpt1
    obtain ⟨hpt3, _⟩ := free_upd hpt2
    have hpt0 : H pt = none := s1.free hpt3
    refine ⟨_, rfl, p, CW, dx, _, rfl, (by rw [upd_ne ptp.symm]; exact upd_same), T_Worlds.cl, T_Worlds.nT, (by show 3 < 1000; decide), ?_⟩
    generalize hHf : upd (upd (upd (upd (upd H1 p (.ins CW dx (putF "widths" (.ref pw) []))) p (.ins CW dx (putF "amount" (.int (am : Int)) (putF "widths" (.ref pw) [])))) p (.ins CW dx (putF "everywhere" (.int ((2 ^ am - 1 : Nat) : Int)) (putF "amount" (.int (am : Int)) (putF "widths" (.ref pw) []))))) pt (.lst [.int 0])) p (.ins CW dx (putF "tables" (.ref pt) (putF "everywhere" (.int ((2 ^ am - 1 : Nat) : Int)) (putF "amount" (.int (am : Int)) (putF "widths" (.ref pw) []))))) = Hf
    have ptw : pw ≠ pt := ne_of_none e1 hpt3
    have fP : Hf p = some (.ins CW dx (wF pw pt am)) := by rw [← hHf, upd_same, wF_new]
    have fW : Hf pw = some (.lst (lits (Sm03.inputs s.now.terms))) := by rw [← hHf, upd_ne pwp, upd_ne ptw, upd_ne pwp, upd_ne pwp, upd_ne pwp]; exact e1
    have fT : Hf pt = some (.lst (lits [0])) := by rw [← hHf, upd_ne ptp, upd_same]; rfl
    have bf : But p H Hf := by rw [← hHf]; exact But.upd (But.new (But.upd (But.upd (But.upd (But.of s1)))) hpt0)
    subst hA
    have hSf := hS.but bf hp
    refine ⟨_, rfl, A, s, rfl, hSf, fun pl H3 kvs s3 hpl e3 hk => ?_⟩
    have hS3 := hSf.same s3
    obtain ⟨ds3, h13⟩ := hS3.ins
    obtain ⟨dg3, hg3⟩ := hS3.gat.ins
    obtain ⟨ns, hn3, hN3⟩ := hS3.gat.nodes
    have gl := hW.gl
    have nl := hN3.len
    refine ⟨_, rfl, A.sa, CS, ds3, _, _, rfl, h13, T_State.cl, T_State.nG, sF_gates A, A.ga, CG, dg3, _, _, rfl, hg3, T_Gates.cl, T_Gates.nN, gF_nodes _ _, A.n, rfl, ⟨_, .inl (.inl hn3)⟩, ?_⟩
    have ptn : A.n ≠ pt := by
      obtain ⟨vs0, hv0, _⟩ := hS.gat.nodes
      exact ne_of_none hv0 hpt0
    have plt : pl ≠ pt := ne_of e3 (s3 _ _ fT) (by intro z; cases z)
    have plp : pl ≠ p := ne_of e3 (s3 _ _ fP) (by intro z; cases z)
    refine for_it (walk_list (K := K) (a := A.n) (xs := ns))
      (fun i σ H4 => But p H H4 ∧ H4 A.n = some (.lst ns) ∧ (∀ r xs, H3 r = some (.tup xs) → H4 r = some (.tup xs)) ∧ H4 pl = some (.dK kvs) ∧ ∃ (T : List Nat) (v3 v4 : Option V), σ = [some (.ref p), some (.ref A.sa), some (.ref pl), v3, v4, none] ∧ WAt CW p pw pt H4 (Sm03.inputs s.now.terms) T ∧ BS.TabOk (2 ^ (Sm03.inputs s.now.terms).sum) s.now.terms s.now.graph i T)
      ⟨bf.trans (But.of s3), hn3, fun r xs e => e, e3, [0], none, none, rfl, ⟨⟨dx, s3 _ _ fP⟩, s3 _ _ fW, s3 _ _ fT, hs10, inp_few hW⟩, BS.TabOk.start⟩ (fun i σ H4 _ h => .inl (.inl h.2.1)) ?_ ?_
    · rintro i v σ H4 H5 hi ⟨b4, n4, t4, d4, T, v3, v4, rfl, hW4, hT4⟩ ⟨rfl, hv⟩
      have hv0 := hN3.at hv
      have hl4 := hT4.len
      have g30 : ∀ {q : Addr} {a b : Nat}, H3 q = some (.tup [.int a, .int b]) → H5 q = some (.tup (lits [a, b])) := fun e => t4 _ _ e
      have fin : ∀ (t : Nat) (H6 : Hp), Same H5 H6 → BS.TabOk (2 ^ (Sm03.inputs s.now.terms).sum) s.now.terms s.now.graph (i + 1) (T ++ [t]) →
          (But p H (upd H6 pt (.lst (lits T ++ [.int (t : Int)]))) ∧ (upd H6 pt (.lst (lits T ++ [.int (t : Int)]))) A.n = some (.lst ns) ∧ (∀ r xs, H3 r = some (.tup xs) → (upd H6 pt (.lst (lits T ++ [.int (t : Int)]))) r = some (.tup xs)) ∧ (upd H6 pt (.lst (lits T ++ [.int (t : Int)]))) pl = some (.dK kvs) ∧ ∃ (T' : List Nat) (v3' v4' : Option V), [some (.ref p), some (.ref A.sa), some (.ref pl), some v, some (.int (t : Int)), none] = [some (.ref p), some (.ref A.sa), some (.ref pl), v3', v4', none] ∧ WAt CW p pw pt (upd H6 pt (.lst (lits T ++ [.int (t : Int)]))) (Sm03.inputs s.now.terms) T' ∧ BS.TabOk (2 ^ (Sm03.inputs s.now.terms).sum) s.now.terms s.now.graph (i + 1) T') := fun t H6 s6 hT6 => by
        refine ⟨But.new (b4.trans (But.of s6)) hpt0, ?_, fun r xs e => ?_, ?_, T ++ [t], _, _, rfl, (hW4.same s6).push ptw t, hT6⟩
        · rw [upd_ne ptn]; exact s6 _ _ n4
        · rw [upd_ne (ne_of (t4 _ _ e) hW4.tl (by intro z; cases z))]; exact s6 _ _ (t4 _ _ e)
        · rw [upd_ne plt]; exact s6 _ _ d4
      obtain ⟨dx4, h14⟩ := hW4.ins
      rcases hv0 with ⟨hb, rfl⟩ | ⟨qa, a, b, hb, rfl, hq⟩
      · obtain ⟨J, I, w, hJ, hI⟩ := hW.gd.ofBit hb
        refine ⟨_, rfl, rfl, _, rfl, if_true_of (decide_eq_true rfl) ?_⟩
        refine ⟨_, rfl, p, dx4, _, rfl, h14, by rfl, _, rfl, _, rfl, p, CW, dx4, _, _, rfl, h14, T_Worlds.cl, T_Worlds.nT, wF_tables _ _ _, pt, _, rfl, .inl (.inl (.inl hW4.tl)), _, _, rfl, rfl, .inl ⟨by decide, by decide⟩, pl, .int ((BS.below s.now.terms J + I : Nat) : Int), rfl, ?_, ?_⟩
        · have := DGet.k (k := Sum.inl (2 * (((lits T).length : Nat) : Int))) d4
          rw [show (2 * (((lits T).length : Nat) : Int)) = ((2 * (i + 1) : Nat) : Int) by rw [lits_len, hl4]; omega, hk J I _ w hJ hI] at this
          dsimp only
          rw [show (2 * (((lits T).length : Nat) : Int)) = ((2 * (i + 1) : Nat) : Int) by rw [lits_len, hl4]; omega]
          exact this
        refine ⟨p, pw, pt, _, T, BS.below s.now.terms J + I, rfl, hW4, fun H6 s6 => ?_⟩
        have hT6 := hT4.bit hW.gd.ea hb (t := BS.bitSum (fun k => k.testBit (BS.below s.now.terms J + I)) (2 ^ (Sm03.inputs s.now.terms).sum)) fun J' I' w' h1' h2' k hk' => by
          obtain ⟨rfl, rfl⟩ := hW.gd.once hJ hI h1' h2'
          rw [BS.bitSum_bit, decide_eq_true hk', Bool.true_and]
        exact ⟨_, rfl, p, CW, dx4, _, _, rfl, s6 _ _ h14, T_Worlds.cl, T_Worlds.nT, wF_tables _ _ _, .inl ⟨rfl, _, .inl (.inl (s6 _ _ hW4.tl))⟩, _, rfl, pt, _, _, rfl, rfl, s6 _ _ hW4.tl, lim_lt (by rw [lits_len, hl4]; omega), fin _ H6 s6 hT6⟩
      · obtain ⟨l1, l2, l3⟩ := hW.gd.ea i a b hb
        have hq5 := g30 hq
        refine ⟨_, rfl, rfl, _, rfl, if_false_of (decide_eq_false (by intro z; cases z)) ?_⟩
        refine ⟨_, rfl, p, dx4, _, rfl, h14, by rfl, _, rfl, qa, _, _, _, rfl, rfl, .inl (.inl hq5), at0 _ _, p, pw, pt, _, T, a, rfl, hW4, by omega, ?_⟩
        refine ⟨_, rfl, p, dx4, _, rfl, h14, by rfl, _, rfl, qa, _, _, _, rfl, rfl, .inl (.inl hq5), at1 _ _ _, p, pw, pt, _, T, b, rfl, hW4, by omega, _, _, rfl, rfl, ?_⟩
        dsimp only
        rw [natAnd]
        exact ⟨_, rfl, p, CW, dx4, _, _, rfl, h14, T_Worlds.cl, T_Worlds.nT, wF_tables _ _ _, .inl ⟨rfl, _, .inl (.inl hW4.tl)⟩, _, rfl, pt, _, _, rfl, rfl, hW4.tl, lim_lt (by rw [lits_len, hl4]; omega), fin _ H5 (Same.refl _) (hT4.gate hW.gd.ea hb)⟩
    · rintro σ H4 ⟨b4, n4, t4, d4, T, v3, v4, rfl, hW4, hT4⟩
      rw [nl] at hT4
      exact q H4 pw pt T ⟨hW4, hT4⟩ b4
end
end BC

set_option Elab.async false
set_option linter.all false
set_option maxRecDepth 100000
set_option maxHeartbeats 2000000
namespace BC
open PySem PySem.Spec PyProof.Rows L2
section
variable {P : Program} {w : World} {K : PySem.W.Frag} {mg : Str → Option Value} {base : Heap} {CG CS CW : Addr} {f : Addr} {fd : FuncData}
abbrev s_answer_of_decide : Stmt := top 13
abbrev N_answer_of_decide : List Str := ["state", "numbers", "worlds", "found"]
theorem sc_answer_of_decide : FnScope N_answer_of_decide ["state", "numbers"] (defScope s_answer_of_decide) := ⟨rfl, rfl, rfl, by decide +kernel, rfl, by decide +kernel, by decide +kernel⟩
theorem ok_answer_of_decide (F : Fun K "answer_of_decide" "answer_of_decide" s_answer_of_decide f fd) (M_Worlds : DK P w K mg base CW 4 "Worlds" (spWInit CS CG CW)) (D_listed : DM P w K mg base CW 1 "listed" (spListed CW)) (D_fitting : DM P w K mg base CW 2 "fitting" (spFit CS CG CW)) (b_len : mg "len" = none) (D_inputs_told : DF P w K mg base 2 "inputs_told" (spTold CW)) : FnOk P w K mg base CX0 6 f fd ["state", "numbers"] (spDecide CS CG) := by
  refine F.ok sc_answer_of_decide (fun vs H Q E h => ?_) (fun cdv A outer s H vs Q E hr h => ?_)
  · obtain ⟨_, _, _, rfl, _⟩ := h
    rfl
  · obtain ⟨A, s, nn, rfl, hS, q⟩ := h
    have hu := hu_of hr
    refine ⟨_, (pss_cons (ps_set (i := 2) sc_answer_of_decide.nd rfl (Or.inl rfl) (pe_dk M_Worlds hr (pa_cons (pv 0) pa_nil)))
      (pss_cons (ps_set (i := 3) sc_answer_of_decide.nd rfl (Or.inl rfl) (pe_dm (pv 2) D_listed (hr.mono (by decide)) (pa_cons (pe_dm (pv 2) D_fitting (hr.mono (by decide)) (pa_cons (pv 0) pa_nil)) pa_nil)))
      (pss_cons (ps_if (pt_cmpR op_eq (pe_callB call_len_seq (by rfl) b_len PySem.boot_len (pa_cons (pv 3) pa_nil)) pe_int (nomark _))
      (pss_one (ps_ret (pe_lst (pa_cons pe_int pa_nil))))
      pss_nil)
      (pss_one (ps_ret (pe_op op_cat (pe_lst (pa_cons pe_int pa_nil)) (pe_df D_inputs_told (hr.mono (by decide)) (pa_cons (pv 2) (pa_cons (pe_ix ix_list (pv 3) pe_int (fun _ _ => rfl)) pa_nil))))))))), ?_⟩
    have hW := hS.wf
    refine ⟨_, rfl, fun x dx hx hdx hxd => ⟨x, dx, A, s, rfl, upd_same, made_sat hS hx hdx, fun H1 pw pt T hO b1 => ⟨rfl, ?_⟩⟩⟩
    have s1 := made_same b1 hx hdx
    have hS1 := hS.same s1
    obtain ⟨dw, hw1⟩ := hO.at_.ins
    refine ⟨_, rfl, x, dw, _, rfl, hw1, by rfl, _, rfl, x, dw, _, rfl, hw1, by rfl, _, rfl, x, pw, pt, A, s, T, rfl, hS1, hO, fun F hF => ?_⟩
    refine ⟨x, pw, pt, _, T, F, rfl, hO.at_, fun fp H2 s2 hfp e2 => ?_⟩
    rw [step_decide hF] at q
    have e2 : H2 fp = some (.lst (lits (BS.hits (Sm03.inputs s.now.terms) F))) := e2
    refine ⟨_, rfl, fp, _, rfl, .inl (.inl (.inl e2)), rfl, _, rfl, ?_⟩
    cases hh : BS.hits (Sm03.inputs s.now.terms) F with
    | nil =>
      rw [hh] at q
      refine if_true_of (decide_eq_true rfl) ⟨(by show 1 ≤ sizeLine; decide), fun p hp => ansd_same q hS (s1.trans s2) hp⟩
    | cons k r =>
      rw [hh] at q e2
      refine if_false_of (decide_eq_false (by intro z; injection z with z; rw [lits_len, List.length_cons] at z; omega)) ?_
      have hO2 := hO.same s2
      have few := hO.at_.few
      have hL : (100 : Nat) ≤ LIM := by decide
      refine ⟨(by show 1 ≤ sizeLine; decide), fun c hc => ?_⟩
      have sc := same_upd (o := .lst [.int 1]) hc
      refine ⟨_, rfl, _, rfl, fp, _, _, _, rfl, rfl, .inl (.inl (sc _ _ e2)), at0 _ _, x, pw, pt, _, T, k, rfl, (hO2.same sc).at_, fun g H3 s3 hg eg => ?_⟩
      refine ⟨c, g, _, _, rfl, rfl, s3 _ _ upd_same, eg, ?_, fun d hd => ?_⟩
      · exact Nat.le_of_lt (lim_lt (by show 1 + (lits (_ :: _)).length ≤ _; rw [lits_len, List.length_cons, BS.rowAt_len]; omega))
      have e : Q (.ref d) (upd H3 d (.lst (List.map V.int (1 :: ((Sm03.inputs s.now.terms).length : Int) :: Sm03.ints (BS.rowAt (Sm03.inputs s.now.terms) k))))) := ansd_same q hS (((s1.trans s2).trans sc).trans s3) hd
      rw [told_list] at e
      exact e

abbrev s_answer_of_count : Stmt := top 16
abbrev N_answer_of_count : List Str := ["state", "numbers", "worlds"]
theorem sc_answer_of_count : FnScope N_answer_of_count ["state", "numbers"] (defScope s_answer_of_count) := ⟨rfl, rfl, rfl, by decide +kernel, rfl, by decide +kernel, by decide +kernel⟩
theorem ok_answer_of_count (F : Fun K "answer_of_count" "answer_of_count" s_answer_of_count f fd) (M_Worlds : DK P w K mg base CW 4 "Worlds" (spWInit CS CG CW)) (b_len : mg "len" = none) (D_listed : DM P w K mg base CW 1 "listed" (spListed CW)) (D_fitting : DM P w K mg base CW 2 "fitting" (spFit CS CG CW)) : FnOk P w K mg base CX0 6 f fd ["state", "numbers"] (spCount CS CG) := by
  refine F.ok sc_answer_of_count (fun vs H Q E h => ?_) (fun cdv A outer s H vs Q E hr h => ?_)
  · obtain ⟨_, _, _, rfl, _⟩ := h
    rfl
  · obtain ⟨A, s, nn, rfl, hS, q⟩ := h
    have hu := hu_of hr
    refine ⟨_, (pss_cons (ps_set (i := 2) sc_answer_of_count.nd rfl (Or.inl rfl) (pe_dk M_Worlds hr (pa_cons (pv 0) pa_nil)))
      (pss_one (ps_ret (pe_lst (pa_cons (pe_callB call_len_seq (by rfl) b_len PySem.boot_len (pa_cons (pe_dm (pv 2) D_listed (hr.mono (by decide)) (pa_cons (pe_dm (pv 2) D_fitting (hr.mono (by decide)) (pa_cons (pv 0) pa_nil)) pa_nil)) pa_nil)) pa_nil))))), ?_⟩
    refine ⟨_, rfl, fun x dx hx hdx hxd => ⟨x, dx, A, s, rfl, upd_same, made_sat hS hx hdx, fun H1 pw pt T hO b1 => ⟨rfl, ?_⟩⟩⟩
    have s1 := made_same b1 hx hdx
    have hS1 := hS.same s1
    obtain ⟨dw, hw1⟩ := hO.at_.ins
    refine ⟨_, rfl, x, dw, _, rfl, hw1, by rfl, _, rfl, x, dw, _, rfl, hw1, by rfl, _, rfl, x, pw, pt, A, s, T, rfl, hS1, hO, fun F hF => ?_⟩
    refine ⟨x, pw, pt, _, T, F, rfl, hO.at_, fun fp H2 s2 hfp e2 => ?_⟩
    rw [step_count hF] at q
    have e2 : H2 fp = some (.lst (lits (BS.hits (Sm03.inputs s.now.terms) F))) := e2
    refine ⟨fp, _, rfl, .inl (.inl (.inl e2)), (by show 1 ≤ sizeLine; decide), fun p hp => ?_⟩
    rw [lits_len]
    exact ansd_same q hS (s1.trans s2) hp

abbrev s_answer_of_same : Stmt := top 14
abbrev N_answer_of_same : List Str := ["state", "numbers", "t", "u", "worlds", "apart", "found"]
theorem sc_answer_of_same : FnScope N_answer_of_same ["state", "numbers"] (defScope s_answer_of_same) := ⟨rfl, rfl, rfl, by decide +kernel, rfl, by decide +kernel, by decide +kernel⟩
theorem ok_answer_of_same (F : Fun K "answer_of_same" "answer_of_same" s_answer_of_same f fd) (D_has : DM P w K mg base CS 1 "has" (spHas CS CG)) (g_NO_TERM : GI mg "NO_TERM" (-2)) (D_width : DM P w K mg base CS 1 "width" (spWidth CS CG)) (g_UNFIT : GI mg "UNFIT" (-1)) (M_Worlds : DK P w K mg base CW 4 "Worlds" (spWInit CS CG CW)) (D_differing : DM P w K mg base CW 2 "differing" (spDiff CW)) (T_State : TState K CS) (D_listed : DM P w K mg base CW 1 "listed" (spListed CW)) (D_fitting : DM P w K mg base CW 2 "fitting" (spFit CS CG CW)) (b_len : mg "len" = none) (D_inputs_told : DF P w K mg base 2 "inputs_told" (spTold CW)) : FnOk P w K mg base CX0 6 f fd ["state", "numbers"] (spSame CS CG) := by
  refine F.ok sc_answer_of_same (fun vs H Q E h => ?_) (fun cdv A outer s H vs Q E hr h => ?_)
  · obtain ⟨_, _, _, _, _, rfl, _⟩ := h
    rfl
  · obtain ⟨A, s, nn, t, u, rfl, hS, hn, q⟩ := h
    obtain ⟨dx0, h1⟩ := hS.ins
    have hu := hu_of hr
    refine ⟨_, (pss_cons (ps_set (i := 2) sc_answer_of_same.nd rfl (Or.inl rfl) (pe_ix ix_list (pv 1) pe_int (fun _ _ => rfl)))
      (pss_cons (ps_set (i := 3) sc_answer_of_same.nd rfl (Or.inl rfl) (pe_ix ix_list (pv 1) pe_int (fun _ _ => rfl)))
      (pss_cons (ps_if (PW.pt (pw_or (pt_not (pt_val (pe_dm (pv 0) D_has (hr.mono (by decide)) (pa_cons (pv 2) pa_nil)))) (pw_or1 (pt_not (pt_val (pe_dm (pv 0) D_has (hr.mono (by decide)) (pa_cons (pv 3) pa_nil)))))))
      (pss_one (ps_ret (pe_lst (pa_cons (pe_gi g_NO_TERM) pa_nil))))
      pss_nil)
      (pss_cons (ps_if (pt_cmpR op_ne (pe_dm (pv 0) D_width (hr.mono (by decide)) (pa_cons (pv 2) pa_nil)) (pe_dm (pv 0) D_width (hr.mono (by decide)) (pa_cons (pv 3) pa_nil)) (nomark _))
      (pss_one (ps_ret (pe_lst (pa_cons (pe_gi g_UNFIT) pa_nil))))
      pss_nil)
      (pss_cons (ps_set (i := 4) sc_answer_of_same.nd rfl (Or.inl rfl) (pe_dk M_Worlds hr (pa_cons (pv 0) pa_nil)))
      (pss_cons (ps_set (i := 5) sc_answer_of_same.nd rfl (Or.inl rfl) (pe_dm (pv 4) D_differing (hr.mono (by decide)) (pa_cons (pe_ix ix_list (pe_fld (pv 0) rfl) (pv 2) (fun _ _ => rfl)) (pa_cons (pe_ix ix_list (pe_fld (pv 0) rfl) (pv 3) (fun _ _ => rfl)) pa_nil))))
      (pss_cons (ps_set (i := 6) sc_answer_of_same.nd rfl (Or.inl rfl) (pe_dm (pv 4) D_listed (hr.mono (by decide)) (pa_cons (pe_op op_and (pe_dm (pv 4) D_fitting (hr.mono (by decide)) (pa_cons (pv 0) pa_nil)) (pv 5)) pa_nil)))
      (pss_cons (ps_if (pt_cmpR op_eq (pe_callB call_len_seq (by rfl) b_len PySem.boot_len (pa_cons (pv 6) pa_nil)) pe_int (nomark _))
      (pss_one (ps_ret (pe_lst (pa_cons pe_int pa_nil))))
      pss_nil)
      (pss_one (ps_ret (pe_op op_cat (pe_lst (pa_cons pe_int pa_nil)) (pe_df D_inputs_told (hr.mono (by decide)) (pa_cons (pv 4) (pa_cons (pe_ix ix_list (pv 6) pe_int (fun _ _ => rfl)) pa_nil)))))))))))))), ?_⟩
    have hW := hS.wf
    refine ⟨_, rfl, nn, _, _, _, rfl, rfl, .inl (.inl hn), at0 _ _, ?_⟩
    refine ⟨_, rfl, nn, _, _, _, rfl, rfl, .inl (.inl hn), at1 _ _ _, ?_⟩
    refine ⟨_, rfl, A.sa, dx0, _, rfl, h1, by rfl, _, rfl, A, s, t, rfl, hS, _, rfl, ?_⟩
    have qr : Ansd CS CG A H Q (s, if Sm03.there s.now.terms t = false ∨ Sm03.there s.now.terms u = false then [-2] else if Sm03.widthOf s.now.terms t ≠ Sm03.widthOf s.now.terms u then [-1] else match (Sm03.rowsOf (Sm03.inputs s.now.terms)).find? (fun r => Sm03.fits s.now.terms s.now.claims r && ((Sm03.values s.now.terms r).getD t 0 != (Sm03.values s.now.terms r).getD u 0)) with
        | some r => 0 :: (r.length : Int) :: Sm03.ints r
        | none => [1]) := q
    by_cases c1 : ¬ t < s.now.terms.length
    · refine if_true_of (by rw [decide_eq_false c1]; rfl) (if_true_of rfl ?_)
      rw [if_pos (.inl (th_f c1))] at qr
      exact ⟨(by show 1 ≤ sizeLine; decide), fun p hp => ansd_same qr hS (Same.refl H) hp⟩
    replace c1 := Decidable.not_not.mp c1
    refine if_false_of (by rw [decide_eq_true c1]; rfl) ?_
    refine ⟨_, rfl, A.sa, dx0, _, rfl, h1, by rfl, _, rfl, A, s, u, rfl, hS, _, rfl, ?_⟩
    by_cases c2 : ¬ u < s.now.terms.length
    · refine if_true_of (by rw [decide_eq_false c2]; rfl) ?_
      rw [if_pos (.inr (th_f c2))] at qr
      exact ⟨(by show 1 ≤ sizeLine; decide), fun p hp => ansd_same qr hS (Same.refl H) hp⟩
    replace c2 := Decidable.not_not.mp c2
    refine if_false_of (by rw [decide_eq_true c2]; rfl) ?_
    refine ⟨_, rfl, A.sa, dx0, _, rfl, h1, by rfl, _, rfl, A, s, t, rfl, hS, c1, ?_⟩
    refine ⟨_, rfl, A.sa, dx0, _, rfl, h1, by rfl, _, rfl, A, s, u, rfl, hS, c2, rfl, _, rfl, ?_⟩
    rw [if_neg (by rw [th_t c1, th_t c2]; simp)] at qr
    by_cases c3 : ¬ Sm03.widthOf s.now.terms t = Sm03.widthOf s.now.terms u
    · refine if_true_of (by rw [dec_ne, decide_eq_true c3]) ?_
      rw [if_pos c3] at qr
      exact ⟨(by show 1 ≤ sizeLine; decide), fun p hp => ansd_same qr hS (Same.refl H) hp⟩
    replace c3 := Decidable.not_not.mp c3
    refine if_false_of (by rw [dec_ne, decide_eq_false (fun z => z c3)]) ?_
    clear qr
    refine ⟨_, rfl, fun x dx hx hdx hxd => ⟨x, dx, A, s, rfl, upd_same, made_sat hS hx hdx, fun H1 pw pt T hO b1 => ⟨rfl, ?_⟩⟩⟩
    have s1 := made_same b1 hx hdx
    have hS1 := hS.same s1
    obtain ⟨dx1, h11⟩ := hS1.ins
    obtain ⟨dw, hw1⟩ := hO.at_.ins
    obtain ⟨rs, ra, g1, g2, g3⟩ := hS1.word c1
    obtain ⟨rs', rb, g1', g2', g3'⟩ := hS1.word c2
    have w8 := (hW.width c1).2
    refine ⟨_, rfl, x, dw, _, rfl, hw1, by rfl, _, rfl, A.sa, CS, dx1, _, _, rfl, h11, T_State.cl, T_State.nT, sF_terms A, _, rfl, A.pt, _, _, _, rfl, rfl, .inl (.inl g1), atI_nat g2, ?_⟩
    refine ⟨_, rfl, A.sa, CS, dx1, _, _, rfl, h11, T_State.cl, T_State.nT, sF_terms A, _, rfl, A.pt, _, _, _, rfl, rfl, .inl (.inl g1'), atI_nat g2', ?_⟩
    refine ⟨x, pw, pt, ra, rb, _, T, _, _, rfl, hO.at_, g3.1, g3'.1, c3, by omega, fun l hl => by rw [hO.tab.len]; exact hW.lits hl, fun l hl => by rw [hO.tab.len]; exact hW.lits hl, fun D H2 s2 hD => ?_⟩
    have hO2 := hO.same s2
    have hS2 := hS1.same s2
    have hw2 := s2 _ _ hw1
    refine ⟨_, rfl, x, dw, _, rfl, hw2, by rfl, _, rfl, x, dw, _, rfl, hw2, by rfl, _, rfl, x, pw, pt, A, s, T, rfl, hS2, hO2, fun F hF => ?_⟩
    refine ⟨_, rfl, _, _, rfl, rfl, ?_⟩
    dsimp only
    rw [natAnd]
    refine ⟨x, pw, pt, _, T, F &&& D, rfl, hO2.at_, fun fp H3 s3 hfp e3 => ?_⟩
    rw [step_same (F := F &&& D) c1 c2 c3 (fun k hk => by
      rw [Nat.testBit_and, hF k hk, hD k hk, hO.tab.value hW.gd hW.iw hk c1, hO.tab.value hW.gd hW.iw hk c2, BS.wv_ne c3])] at q
    have e3 : H3 fp = some (.lst (lits (BS.hits (Sm03.inputs s.now.terms) (F &&& D)))) := e3
    refine ⟨_, rfl, fp, _, rfl, .inl (.inl (.inl e3)), rfl, _, rfl, ?_⟩
    cases hh : BS.hits (Sm03.inputs s.now.terms) (F &&& D) with
    | nil =>
      rw [hh] at q
      refine if_true_of (decide_eq_true rfl) ⟨(by show 1 ≤ sizeLine; decide), fun p hp => ansd_same q hS ((s1.trans s2).trans s3) hp⟩
    | cons k r =>
      rw [hh] at q e3
      refine if_false_of (decide_eq_false (by intro z; injection z with z; rw [lits_len, List.length_cons] at z; omega)) ?_
      have hO3 := hO2.same s3
      have few := hO.at_.few
      have hL : (100 : Nat) ≤ LIM := by decide
      refine ⟨(by show 1 ≤ sizeLine; decide), fun c hc => ?_⟩
      have sc := same_upd (o := .lst [.int 0]) hc
      refine ⟨_, rfl, _, rfl, fp, _, _, _, rfl, rfl, .inl (.inl (sc _ _ e3)), at0 _ _, x, pw, pt, _, T, k, rfl, (hO3.same sc).at_, fun g H4 s4 hg eg => ?_⟩
      refine ⟨c, g, _, _, rfl, rfl, s4 _ _ upd_same, eg, ?_, fun d hd => ?_⟩
      · exact Nat.le_of_lt (lim_lt (by show 1 + (lits (_ :: _)).length ≤ _; rw [lits_len, List.length_cons, BS.rowAt_len]; omega))
      have e : Q (.ref d) (upd H4 d (.lst (List.map V.int (0 :: ((Sm03.inputs s.now.terms).length : Int) :: Sm03.ints (BS.rowAt (Sm03.inputs s.now.terms) k))))) := ansd_same q hS ((((s1.trans s2).trans s3).trans sc).trans s4) hd
      rw [told_list] at e
      exact e

abbrev s_answer_of_range : Stmt := top 15
abbrev N_answer_of_range : List Str := ["state", "numbers", "name", "worlds", "tables", "reached", "world"]
theorem sc_answer_of_range : FnScope N_answer_of_range ["state", "numbers"] (defScope s_answer_of_range) := ⟨rfl, rfl, rfl, by decide +kernel, rfl, by decide +kernel, by decide +kernel⟩
theorem ok_answer_of_range (F : Fun K "answer_of_range" "answer_of_range" s_answer_of_range f fd) (D_has : DM P w K mg base CS 1 "has" (spHas CS CG)) (g_NO_TERM : GI mg "NO_TERM" (-2)) (M_Worlds : DK P w K mg base CW 4 "Worlds" (spWInit CS CG CW)) (D_tables_of : DM P w K mg base CW 2 "tables_of" (spTabs CW)) (T_State : TState K CS) (D_listed : DM P w K mg base CW 1 "listed" (spListed CW)) (D_fitting : DM P w K mg base CW 2 "fitting" (spFit CS CG CW)) (D_value_in : DF P w K mg base 1 "value_in" (spValIn)) (b_len : mg "len" = none) (b_max : mg "max" = none) (b_min : mg "min" = none) : FnOk P w K mg base CX0 6 f fd ["state", "numbers"] (spRange CS CG) := by
  refine F.ok sc_answer_of_range (fun vs H Q E h => ?_) (fun cdv A outer s H vs Q E hr h => ?_)
  · obtain ⟨_, _, _, _, rfl, _⟩ := h
    rfl
  · obtain ⟨A, s, nn, t, rfl, hS, hn, q⟩ := h
    obtain ⟨dx0, h1⟩ := hS.ins
    have hu := hu_of hr
    refine ⟨_, (pss_cons (ps_set (i := 2) sc_answer_of_range.nd rfl (Or.inl rfl) (pe_ix ix_list (pv 1) pe_int (fun _ _ => rfl)))
      (pss_cons (ps_if (pt_not (pt_val (pe_dm (pv 0) D_has (hr.mono (by decide)) (pa_cons (pv 2) pa_nil))))
      (pss_one (ps_ret (pe_lst (pa_cons (pe_gi g_NO_TERM) pa_nil))))
      pss_nil)
      (pss_cons (ps_set (i := 3) sc_answer_of_range.nd rfl (Or.inl rfl) (pe_dk M_Worlds hr (pa_cons (pv 0) pa_nil)))
      (pss_cons (ps_set (i := 4) sc_answer_of_range.nd rfl (Or.inr rfl) (pe_dm (pv 3) D_tables_of (hr.mono (by decide)) (pa_cons (pe_ix ix_list (pe_fld (pv 0) rfl) (pv 2) (fun _ _ => rfl)) pa_nil)))
      (pss_cons (ps_setLc (i := 5) (own := [("world", 6)]) (g := gName 6) (tt := tYes) rfl sc_answer_of_range.nd rfl rfl (sw_true rfl rfl rfl (by decide +kernel)) (pi_list (pe_dm (pv 3) D_listed (hr.mono (by decide)) (pa_cons (pe_dm (pv 3) D_fitting (hr.mono (by decide)) (pa_cons (pv 0) pa_nil)) pa_nil))) (blkOk_by (N := N_answer_of_range) (sc := defScope s_answer_of_range) (by decide +kernel)) (fun _ _ _ _ _ => (pg_name (i := 6) sc_answer_of_range.nd rfl (Or.inl rfl))) (fun _ _ _ _ _ => pts_nil) (fun _ _ _ _ _ => (pe_df D_value_in (hr.mono (by decide)) (pa_cons (pv 4) (pa_cons (pv 6) pa_nil)))))
      (pss_cons (ps_if (pt_cmpR op_eq (pe_callB call_len_seq (by rfl) b_len PySem.boot_len (pa_cons (pv 5) pa_nil)) pe_int (nomark _))
      (pss_one (ps_ret (pe_lst (pa_cons pe_int pa_nil))))
      pss_nil)
      (pss_one (ps_ret (pe_lst (pa_cons pe_int (pa_cons (pe_callB (cr_min rfl) (by rfl) b_min (by decide +kernel) (pa_cons (pv 5) pa_nil)) (pa_cons (pe_callB (cr_max rfl) (by rfl) b_max (by decide +kernel) (pa_cons (pv 5) pa_nil)) pa_nil)))))))))))), ?_⟩
    have hW := hS.wf
    have hL : (2000 : Nat) ≤ LIM := by decide
    refine ⟨_, rfl, nn, _, _, _, rfl, rfl, .inl (.inl hn), at0 _ _, ?_⟩
    refine ⟨_, rfl, A.sa, dx0, _, rfl, h1, by rfl, _, rfl, A, s, t, rfl, hS, _, rfl, ?_⟩
    have qr : Ansd CS CG A H Q (s, if Sm03.there s.now.terms t = false then [-2] else Sm03.ends (((Sm03.rowsOf (Sm03.inputs s.now.terms)).filter (Sm03.fits s.now.terms s.now.claims)).map fun r => (Sm03.values s.now.terms r).getD t 0)) := q
    by_cases c1 : ¬ t < s.now.terms.length
    · refine if_true_of (by rw [decide_eq_false c1]; rfl) ?_
      rw [if_pos (th_f c1)] at qr
      exact ⟨(by show 1 ≤ sizeLine; decide), fun p hp => ansd_same qr hS (Same.refl H) hp⟩
    replace c1 := Decidable.not_not.mp c1
    refine if_false_of (by rw [decide_eq_true c1]; rfl) ?_
    clear qr
    refine ⟨_, rfl, fun x dx hx hdx hxd => ⟨x, dx, A, s, rfl, upd_same, made_sat hS hx hdx, fun H1 pw pt T hO b1 => ⟨rfl, ?_⟩⟩⟩
    have s1 := made_same b1 hx hdx
    have hS1 := hS.same s1
    obtain ⟨dx1, h11⟩ := hS1.ins
    obtain ⟨dw, hw1⟩ := hO.at_.ins
    obtain ⟨rs, ra, g1, g2, g3⟩ := hS1.word c1
    have w8 := (hW.width c1).2
    refine ⟨_, rfl, x, dw, _, rfl, hw1, by rfl, _, rfl, A.sa, CS, dx1, _, _, rfl, h11, T_State.cl, T_State.nT, sF_terms A, _, rfl, A.pt, _, _, _, rfl, rfl, .inl (.inl g1), atI_nat g2, ?_⟩
    refine ⟨x, pw, pt, ra, _, T, _, rfl, hO.at_, g3.1, by omega, fun l hl => by rw [hO.tab.len]; exact hW.lits hl, fun tp H2 s2 htp e2 => ?_⟩
    have hO2 := hO.same s2
    have hS2 := hS1.same s2
    have hw2 := s2 _ _ hw1
    refine ⟨_, rfl, x, dw, _, rfl, hw2, by rfl, _, rfl, x, dw, _, rfl, hw2, by rfl, _, rfl, x, pw, pt, A, s, T, rfl, hS2, hO2, fun F hF => ?_⟩
    refine ⟨x, pw, pt, _, T, F, rfl, hO2.at_, fun fp H3 s3 hfp e3 => ?_⟩
    rw [step_range (CS := CS) (CG := CG) (A := A) hO hW c1 hF] at q
    have e3 : H3 fp = some (.lst (lits (BS.hits (Sm03.inputs s.now.terms) F))) := e3
    have hhl := BS.hits_len (ws := Sm03.inputs s.now.terms) (F := F)
    have ham := am_le hO.at_.le
    refine ⟨fp, rfl, ⟨_, .inl (.inl e3)⟩, fun D hD => ?_⟩
    refine lc_map (walk_list (K := K) (a := fp) (xs := lits (BS.hits (Sm03.inputs s.now.terms) F))) (lits ((BS.hits (Sm03.inputs s.now.terms) F).map fun k => BS.wv (BS.valT T k) (Sm03.wordOf s.now.terms t))) (by rw [lits_len, lits_len, List.length_map]) (by rw [lits_len]; omega) hD (fun H4 s4 => .inl (.inl (s4 _ _ e3))) ?_ ?_
    · rintro i v H4 H5 y hi s4 ⟨rfl, hx'⟩ hy R N r
      obtain ⟨k, hk, rfl⟩ := lits_at hx'
      obtain ⟨z, hz, rfl⟩ := lits_at hy
      rw [List.getElem?_map, hk] at hz
      injection hz with hz
      subst hz
      refine ⟨rfl, yes_of (if_true_of rfl ?_)⟩
      refine ⟨_, rfl, _, rfl, tp, _, k, rfl, s4 _ _ (s3 _ _ e2), by rw [List.length_map]; omega, fun H6 s6 => ?_⟩
      rw [BS.wv_wh (BS.hits_lt (List.mem_of_getElem? hk))]
      exact r _ s6
    intro H4 s4 e4
    refine ⟨_, rfl, D, _, rfl, .inl (.inl (.inl e4)), rfl, _, rfl, ?_⟩
    have s14 := ((s1.trans s2).trans s3).trans s4
    generalize (BS.hits (Sm03.inputs s.now.terms) F).map (fun k => BS.wv (BS.valT T k) (Sm03.wordOf s.now.terms t)) = L at q e4 ⊢
    cases L with
    | nil => refine if_true_of (decide_eq_true rfl) ⟨(by show 1 ≤ sizeLine; decide), fun p hp => ansd_same q hS s14 hp⟩
    | cons k r =>
      refine if_false_of (decide_eq_false (by intro z; injection z with z; rw [lits_len, List.length_cons] at z; omega)) ?_
      have e5 : SqL K H4 D (((k :: r).map fun (y : Nat) => (y : Int)).map V.int) := by
        rw [List.map_map]
        exact .inl (.inl e4)
      refine ⟨_, rfl, D, (k :: r).map (fun (y : Nat) => (y : Int)), rfl, e5, by rw [List.length_map, List.length_cons]; omega, fun m m1 m2 => ?_⟩
      refine ⟨_, rfl, D, (k :: r).map (fun (y : Nat) => (y : Int)), rfl, e5, by rw [List.length_map, List.length_cons]; omega, fun M M1 M2 => ?_⟩
      refine ⟨(by show 3 ≤ sizeLine; decide), fun p hp => ?_⟩
      rw [BS.least_is m1 m2, BS.most_is M1 M2]
      exact ansd_same q hS s14 hp

abbrev s_unfit_world : Stmt := top 17
abbrev N_unfit_world : List Str := ["state", "given", "name", "value"]
theorem sc_unfit_world : FnScope N_unfit_world ["state", "given"] (defScope s_unfit_world) := ⟨rfl, rfl, rfl, by decide +kernel, rfl, by decide +kernel, by decide +kernel⟩
theorem ok_unfit_world (F : Fun K "unfit_world" "unfit_world" s_unfit_world f fd) (b_len : mg "len" = none) (T_State : TState K CS) (b_any : mg "any" = none) (b_zip : mg "zip" = none) (D_width : DM P w K mg base CS 1 "width" (spWidth CS CG)) : FnOk P w K mg base CX0 2 f fd ["state", "given"] (spUnW CS CG) := by
  refine F.ok sc_unfit_world (fun vs H Q E h => ?_) (fun cdv A outer s H vs Q E hr h => ?_)
  · obtain ⟨_, _, _, _, rfl, _⟩ := h
    rfl
  · obtain ⟨A, s, p, l, rfl, hS, hp, q⟩ := h
    obtain ⟨dx0, h1⟩ := hS.ins
    have hu := hu_of hr
    refine ⟨_, (pss_cons (ps_if (pt_cmpR op_ne (pe_callB call_len_seq (by rfl) b_len PySem.boot_len (pa_cons (pv 1) pa_nil)) (pe_callB call_len_seq (by rfl) b_len PySem.boot_len (pa_cons (pe_fld (pv 0) rfl) pa_nil)) (nomark _))
      (pss_one (ps_ret pe_bl))
      pss_nil)
      (pss_one (ps_ret (pe_callB (cr_any rfl) (by rfl) b_any (by decide +kernel) (pa_cons (pe_lc (own := [("name", 2), ("value", 3)]) (g := gTup K 2 (gCons (gName 2) (gCons (gName 3) gNil))) (tt := tYes) rfl sc_unfit_world.nd (pi_zip (by rfl) b_zip (pa_cons (pe_fld (pv 0) rfl) (pa_cons (pv 1) pa_nil))) (blkOk_by (N := N_unfit_world) (sc := defScope s_unfit_world) (by decide +kernel)) (fun _ _ _ _ _ => (pg_tup rfl (pgs_cons (pg_name (i := 2) sc_unfit_world.nd rfl (Or.inl rfl)) (pgs_cons (pg_name (i := 3) sc_unfit_world.nd rfl (Or.inl rfl)) pgs_nil)))) (fun _ _ _ _ _ => pts_nil) (fun _ _ _ _ _ => (pe_cmpR op_gt (pe_bits (pv 3)) (pe_dm (pv 0) D_width hr (pa_cons (pv 2) pa_nil)) (nomark _)))) pa_nil))))), ?_⟩
    have hW := hS.wf
    have hL : (2000 : Nat) ≤ LIM := by decide
    have few := inp_few hW
    refine ⟨_, rfl, p, _, rfl, .inl (.inl (.inl hp)), ?_⟩
    refine ⟨_, rfl, A.sa, CS, dx0, _, _, rfl, h1, T_State.cl, T_State.nI, sF_inputs A, A.pi, _, rfl, .inl (.inl (.inl hS.inputs)), rfl, _, rfl, ?_⟩
    rw [lits_len, lits_len, inIdx_len, dec_ne]
    have q' : ∀ H', Same H H' → Q (.bl (!(l.length == (Sm03.inputs s.now.terms).length && (l.zip (Sm03.inputs s.now.terms)).all fun x => decide (x.1 < 2 ^ x.2)))) H' := q
    by_cases c1 : ¬ l.length = (Sm03.inputs s.now.terms).length
    · refine if_true_of (decide_eq_true c1) ?_
      have := q' H (Same.refl H)
      rw [beq_eq_false_iff_ne.mpr c1] at this
      exact this
    replace c1 := Decidable.not_not.mp c1
    refine if_false_of (decide_eq_false (fun z => z c1)) ?_
    rw [c1, beq_self_eq_true, Bool.true_and, ← any_not] at q'
    refine ⟨_, rfl, A.sa, CS, dx0, _, _, rfl, h1, T_State.cl, T_State.nI, sF_inputs A, _, rfl, A.pi, p, _, _, rfl, .inl (.inl hS.inputs), .inl (.inl hp), fun D hD => ?_⟩
    generalize hB : (l.zip (Sm03.inputs s.now.terms)).map (fun x => !decide (x.1 < 2 ^ x.2)) = B at q'
    have hBl : B.length = l.length := by rw [← hB, List.length_map, List.length_zip, c1]; exact Nat.min_self _
    have hBat : ∀ i v w, l[i]? = some v → (Sm03.inputs s.now.terms)[i]? = some w → B[i]? = some (!decide (v < 2 ^ w)) := fun i v w e1 e2 => by
      rw [← hB, List.getElem?_map, show (l.zip (Sm03.inputs s.now.terms))[i]? = some (v, w) from List.getElem?_zip_eq_some.mpr ⟨e1, e2⟩]
      rfl
    refine lc_map (walk_zip (K := K) (a := A.pi) (b := p) (xs := lits (inIdx 0 s.now.terms)) (ys := lits l) (n := l.length) (by rw [lits_len, lits_len, inIdx_len]; omega)) (B.map V.bl) (by rw [List.length_map, hBl]) (by omega) hD (fun H1 s1 => ⟨.inl (.inl (s1 _ _ hS.inputs)), .inl (.inl (s1 _ _ hp))⟩) ?_ ?_
    · rintro i v H1 H2 y hi s1 ⟨U, x', y', rfl, hU, rfl, hx', hy'⟩ hy R N r
      obtain ⟨x, hx, rfl⟩ := lits_at hx'
      obtain ⟨z, hz, rfl⟩ := lits_at hy'
      rw [List.getElem?_map, hBat i z _ hz (inIdx_w hW.iw hx)] at hy
      injection hy with hy
      subst hy
      have s2 := s1.trans (same_upd (o := .tup [.int x, .int z]) hU)
      have hS2 := hS.same s2
      obtain ⟨dx2, h12⟩ := hS2.ins
      refine ⟨U, [.int x, .int z], rfl, .inl (.inl upd_same), rfl, _, _, rfl, _, _, rfl, rfl, rfl, yes_of (if_true_of rfl ?_)⟩
      refine ⟨_, rfl, _, rfl, _, rfl, A.sa, dx2, _, rfl, h12, by rfl, _, rfl, A, s, x, rfl, hS2, inIdx_in hx, _, _, rfl, rfl, ?_⟩
      dsimp only
      rw [bits_gt]
      exact r _ (same_upd hU)
    · intro H1 s1 e1
      exact ⟨D, B, rfl, .inl (.inl e1), q' H1 s1⟩

abbrev s_answer_of_value : Stmt := top 18
abbrev N_answer_of_value : List Str := ["state", "numbers", "name", "given", "worlds", "world", "fits"]
theorem sc_answer_of_value : FnScope N_answer_of_value ["state", "numbers"] (defScope s_answer_of_value) := ⟨rfl, rfl, rfl, by decide +kernel, rfl, by decide +kernel, by decide +kernel⟩
theorem ok_answer_of_value (F : Fun K "answer_of_value" "answer_of_value" s_answer_of_value f fd) (D_has : DM P w K mg base CS 1 "has" (spHas CS CG)) (g_NO_TERM : GI mg "NO_TERM" (-2)) (D_unfit_world : DF P w K mg base 2 "unfit_world" (spUnW CS CG)) (g_UNFIT : GI mg "UNFIT" (-1)) (M_Worlds : DK P w K mg base CW 4 "Worlds" (spWInit CS CG CW)) (D_number_of : DM P w K mg base CW 1 "number_of" (spNum CW)) (D_fitting : DM P w K mg base CW 2 "fitting" (spFit CS CG CW)) (D_value_in : DF P w K mg base 1 "value_in" (spValIn)) (D_tables_of : DM P w K mg base CW 2 "tables_of" (spTabs CW)) (T_State : TState K CS) : FnOk P w K mg base CX0 6 f fd ["state", "numbers"] (spValue CS CG) := by
  refine F.ok sc_answer_of_value (fun vs H Q E h => ?_) (fun cdv A outer s H vs Q E hr h => ?_)
  · obtain ⟨_, _, _, _, _, rfl, _⟩ := h
    rfl
  · obtain ⟨A, s, nn, t, l, rfl, hS, hn, q⟩ := h
    obtain ⟨dx0, h1⟩ := hS.ins
    have hu := hu_of hr
    refine ⟨_, (pss_cons (ps_set (i := 2) sc_answer_of_value.nd rfl (Or.inl rfl) (pe_ix ix_list (pv 1) pe_int (fun _ _ => rfl)))
      (pss_cons (ps_set (i := 3) sc_answer_of_value.nd rfl (Or.inl rfl) (pe_slice sl_list (pv 1) (po_some pe_int) po_none))
      (pss_cons (ps_if (pt_not (pt_val (pe_dm (pv 0) D_has (hr.mono (by decide)) (pa_cons (pv 2) pa_nil))))
      (pss_one (ps_ret (pe_lst (pa_cons (pe_gi g_NO_TERM) pa_nil))))
      pss_nil)
      (pss_cons (ps_if (pt_val (pe_df D_unfit_world (hr.mono (by decide)) (pa_cons (pv 0) (pa_cons (pv 3) pa_nil))))
      (pss_one (ps_ret (pe_lst (pa_cons (pe_gi g_UNFIT) pa_nil))))
      pss_nil)
      (pss_cons (ps_set (i := 4) sc_answer_of_value.nd rfl (Or.inl rfl) (pe_dk M_Worlds hr (pa_cons (pv 0) pa_nil)))
      (pss_cons (ps_set (i := 5) sc_answer_of_value.nd rfl (Or.inl rfl) (pe_dm (pv 4) D_number_of (hr.mono (by decide)) (pa_cons (pv 3) pa_nil)))
      (pss_cons (ps_set (i := 6) sc_answer_of_value.nd rfl (Or.inl rfl) (pe_op op_and (pe_op op_shr (pe_dm (pv 4) D_fitting (hr.mono (by decide)) (pa_cons (pv 0) pa_nil)) (pv 5)) pe_int))
      (pss_one (ps_ret (pe_lst (pa_cons (pv 6) (pa_cons (pe_df D_value_in (hr.mono (by decide)) (pa_cons (pe_dm (pv 4) D_tables_of (hr.mono (by decide)) (pa_cons (pe_ix ix_list (pe_fld (pv 0) rfl) (pv 2) (fun _ _ => rfl)) pa_nil)) (pa_cons (pv 5) pa_nil))) pa_nil)))))))))))), ?_⟩
    have hW := hS.wf
    have hL : (2000 : Nat) ≤ LIM := by decide
    refine ⟨_, rfl, nn, _, _, _, rfl, rfl, .inl (.inl hn), at0 _ _, ?_⟩
    refine ⟨_, rfl, _, rfl, nn, _, rfl, .inl (.inl hn), fun gv hgv => ?_⟩
    have ec : cutV (lits (t :: l)) (some (1 : Int)) none = lits l := (cut_from (lits (t :: l)) 1).trans rfl
    rw [ec]
    have s0 := same_upd (o := .lst (lits l)) hgv
    have eg : (upd H gv (.lst (lits l))) gv = some (.lst (lits l)) := upd_same
    generalize hH0 : upd H gv (.lst (lits l)) = H0 at s0 eg ⊢
    have hS0 := hS.same s0
    obtain ⟨dx00, h10⟩ := hS0.ins
    refine ⟨_, rfl, A.sa, dx00, _, rfl, h10, by rfl, _, rfl, A, s, t, rfl, hS0, _, rfl, ?_⟩
    by_cases c1 : ¬ t < s.now.terms.length
    · refine if_true_of (by rw [decide_eq_false c1]; rfl) ?_
      have qr : Ansd CS CG A H Q (s, if Sm03.there s.now.terms t = false then [-2] else if Sm03.areInputs s.now.terms l = false then [-1] else Sm03.ints [Sm03.flag (Sm03.fits s.now.terms s.now.claims l), (Sm03.values s.now.terms l).getD t 0]) := q
      rw [if_pos (th_f c1)] at qr
      exact ⟨(by show 1 ≤ sizeLine; decide), fun p hp => ansd_same qr hS s0 hp⟩
    replace c1 := Decidable.not_not.mp c1
    refine if_false_of (by rw [decide_eq_true c1]; rfl) ?_
    rw [step_value c1] at q
    refine ⟨_, rfl, _, rfl, A, s, gv, l, rfl, hS0, eg, fun H1 s1 => ⟨_, rfl, ?_⟩⟩
    have s01 := s0.trans s1
    have hS1 := hS.same s01
    by_cases c2 : Sm03.areInputs s.now.terms l = false
    · refine if_true_of (by rw [c2]; rfl) ?_
      rw [if_pos c2] at q
      exact ⟨(by show 1 ≤ sizeLine; decide), fun p hp => ansd_same q hS s01 hp⟩
    refine if_false_of (by cases e : Sm03.areInputs s.now.terms l with | true => rfl | false => exact (c2 e).elim) ?_
    rw [if_neg c2] at q
    have c3 : (l.length == (Sm03.inputs s.now.terms).length && (l.zip (Sm03.inputs s.now.terms)).all fun x => decide (x.1 < 2 ^ x.2)) = true := by cases e : Sm03.areInputs s.now.terms l with | true => exact e | false => exact (c2 e).elim
    rw [Bool.and_eq_true, beq_iff_eq, List.all_eq_true] at c3
    obtain ⟨c4, c5⟩ := c3
    have c5' : ∀ x ∈ l.zip (Sm03.inputs s.now.terms), x.1 < 2 ^ x.2 := fun x hx => of_decide_eq_true (c5 x hx)
    obtain ⟨k, hk, ek, er⟩ := BS.numGo_eq (Sm03.inputs s.now.terms) l 0 c4 c5'
    rw [Nat.zero_mul, Nat.zero_add] at ek
    refine ⟨_, rfl, fun x dx hx hdx hxd => ⟨x, dx, A, s, rfl, upd_same, made_sat hS1 hx hdx, fun H2 pw pt T hO b1 => ⟨rfl, ?_⟩⟩⟩
    have s2 := made_same b1 hx hdx
    have hS2 := hS1.same s2
    obtain ⟨dw, hw1⟩ := hO.at_.ins
    refine ⟨_, rfl, x, dw, _, rfl, hw1, by rfl, _, rfl, x, pw, pt, gv, _, T, l, rfl, hO.at_, s2 _ _ (s1 _ _ eg), c4, c5', fun H3 s3 => ?_⟩
    rw [ek]
    have hS3 := hS2.same s3
    have hO3 := hO.same s3
    have hw3 := s3 _ _ hw1
    obtain ⟨dx3, h13⟩ := hS3.ins
    refine ⟨_, rfl, x, dw, _, rfl, hw3, by rfl, _, rfl, x, pw, pt, A, s, T, rfl, hS3, hO3, fun F hF => ?_⟩
    refine ⟨_, rfl, _, _, rfl, rfl, by omega, _, _, rfl, rfl, ?_⟩
    dsimp only
    rw [bitA, bitN, hF k hk, er]
    obtain ⟨rs, ra, g1, g2, g3⟩ := hS3.word c1
    have w8 := (hW.width c1).2
    refine ⟨_, rfl, _, rfl, x, dw, _, rfl, hw3, by rfl, _, rfl, A.sa, CS, dx3, _, _, rfl, h13, T_State.cl, T_State.nT, sF_terms A, _, rfl, A.pt, _, _, _, rfl, rfl, .inl (.inl g1), atI_nat g2, ?_⟩
    refine ⟨x, pw, pt, ra, _, T, _, rfl, hO3.at_, g3.1, by omega, fun z hz => by rw [hO.tab.len]; exact hW.lits hz, fun tp H4 s4 htp e4 => ?_⟩
    refine ⟨_, rfl, tp, _, k, rfl, e4, by rw [List.length_map]; omega, fun H5 s5 => ?_⟩
    refine ⟨(by show 2 ≤ sizeLine; decide), fun p hp => ?_⟩
    rw [BS.wv_wh hk, ← hO.tab.value hW.gd hW.iw hk c1, er, ← BS.flag_toNat]
    exact ansd_same q hS ((((s01.trans s2).trans s3).trans s4).trans s5) hp

abbrev s_answer_of_asking : Stmt := top 20
abbrev N_answer_of_asking : List Str := ["state", "which", "numbers", "asker"]
theorem sc_answer_of_asking : FnScope N_answer_of_asking ["state", "which", "numbers"] (defScope s_answer_of_asking) := ⟨rfl, rfl, rfl, by decide +kernel, rfl, by decide +kernel, by decide +kernel⟩
theorem ok_answer_of_asking (F : Fun K "answer_of_asking" "answer_of_asking" s_answer_of_asking f fd) {a_ASKERS : Addr} (m_ASKERS : mg "ASKERS" = some (.ref a_ASKERS)) {rm : List V} (kM : TupK K a_ASKERS rm) (hM : ∀ c, c < 4 → ∃ f sp, rm[c]? = some (.ref f) ∧ Hld P w K mg base 6 f sp ∧ ∀ vs H Q E, spAsk CS CG c vs H Q E → sp vs H Q E) : FnOk P w K mg base CX0 7 f fd ["state", "which", "numbers"] (spAsking CS CG) := by
  refine F.ok sc_answer_of_asking (fun vs H Q E h => ?_) (fun cdv A outer s H vs Q E hr h => ?_)
  · obtain ⟨_, _, _, _, _, _, rfl, _⟩ := h
    rfl
  · obtain ⟨A, s, c, nn, nums, x, rfl, hS, hc, hn, hx, q⟩ := h
    obtain ⟨fm, sm, hm1, hm2, hm3⟩ := hM c hc
    have hu := hu_of hr
    refine ⟨_, (pss_cons (ps_set (i := 3) sc_answer_of_asking.nd rfl (Or.inl rfl) (pe_ix ix_tup (pe_gr m_ASKERS) (pv 1) (fun _ _ => rfl)))
      (pss_one (ps_ret (pe_callD (k := 6) (i := 3) hr rfl (pa_cons (pv 0) (pa_cons (pv 2) pa_nil)))))), ?_⟩
    refine ⟨_, rfl, a_ASKERS, _, _, _, rfl, rfl, kM _, atI_nat hm1, ?_⟩
    exact ⟨fm, sm, rfl, hm2, _, rfl, _, rfl, hm3 _ _ _ _ ⟨A, s, nn, nums, x, rfl, hS, hn, hx, q⟩⟩
end
end BC

set_option Elab.async false
set_option linter.all false
set_option maxRecDepth 100000
set_option maxHeartbeats 2000000
namespace BC
open PySem PySem.Spec PyProof.Rows L2
/-! ### nodes read, clauses in the heap -/
def PairV (H : Hp) (g : Graph) (j : Nat) (v : V) : Prop := (g[j]? = some .bit ∧ v = .non) ∨ ∃ (p : Addr) (a b : Nat), g[j]? = some (.gate a b) ∧ v = .ref p ∧ H p = some (.tup [.int a, .int b])
def spPair (CG : Addr) : Sp := fun vs H Q _ => ∃ (ga n k : Addr) (g : Graph) (i : Nat), vs = [.ref ga, .int i] ∧ GAt CG ga n k H g ∧ 1 ≤ i ∧ i ≤ g.length ∧ ∀ v, PairV H g (i - 1) v → Q v H
def spNeed (CS CG : Addr) : Sp := fun vs H Q _ => ∃ (A : Ad) (s : Sm03.St), vs = [.ref A.sa] ∧ SAt CS CG A H s ∧ New H Q (Sm03.cone s.now.graph s.now.terms s.now.claims)
def spSign : Sp := fun vs H Q _ => ∃ l : Nat, vs = [.int l] ∧ Q (.int (Sm03.sign l)) H
inductive Cla (H : Hp) : List Addr → List (List Int) → Prop
  | nil : Cla H [] []
  | cons {r : Addr} {rs : List Addr} {c : List Int} {cs : List (List Int)} (h : H r = some (.lst (c.map V.int))) (t : Cla H rs cs) : Cla H (r :: rs) (c :: cs)
theorem Cla.len {H : Hp} {rs : List Addr} {cs : List (List Int)} (h : Cla H rs cs) : rs.length = cs.length := by
  induction h with
  | nil => rfl
  | cons _ _ ih => exact congrArg Nat.succ ih
theorem Cla.mono {H H' : Hp} {rs : List Addr} {cs : List (List Int)} (h : Cla H rs cs) (m : ∀ r ∈ rs, ∀ xs, H r = some (.lst xs) → H' r = some (.lst xs)) : Cla H' rs cs := by
  induction h with
  | nil => exact .nil
  | cons hh _ ih => exact .cons (m _ (List.mem_cons_self ..) _ hh) (ih fun r hr => m r (List.mem_cons_of_mem _ hr))
theorem Cla.same {H H' : Hp} {rs : List Addr} {cs : List (List Int)} (h : Cla H rs cs) (s : Same H H') : Cla H' rs cs := h.mono fun r _ xs e => s _ _ e
theorem Cla.app {H : Hp} {rs rs' : List Addr} {cs cs' : List (List Int)} (h : Cla H rs cs) (h' : Cla H rs' cs') : Cla H (rs ++ rs') (cs ++ cs') := by
  induction h with
  | nil => exact h'
  | cons hh _ ih => exact .cons hh ih
theorem Cla.at {H : Hp} {rs : List Addr} {cs : List (List Int)} (h : Cla H rs cs) : ∀ {i : Nat} {v : V}, (rs.map V.ref)[i]? = some v → ∃ (r : Addr) (c : List Int), v = .ref r ∧ cs[i]? = some c ∧ H r = some (.lst (c.map V.int)) := by
  induction h with
  | nil => intro i v e; cases e
  | cons hh t ih =>
    intro i v e
    cases i with
    | zero => injection e with e; exact ⟨_, _, e.symm, rfl, hh⟩
    | succ i => exact ih (i := i) e
/-- a new list of clauses, each new -/
def NewC (H : Hp) (Q : VK) (cs : List (List Int)) : Prop := ∀ (p : Addr) (H' : Hp) (rs : List Addr), Same H H' → H p = none → H' p = some (.lst (rs.map V.ref)) → Cla H' rs cs → (∀ r ∈ rs, H r = none) → Q (.ref p) H'
def spCoG : Sp := fun vs H Q _ => ∃ (n : Nat) (q : Addr) (a b : Nat), vs = [.int n, .ref q] ∧ H q = some (.tup [.int a, .int b]) ∧ NewC H Q [[0 - (n : Int), Sm03.sign a], [0 - (n : Int), Sm03.sign b], [(n : Int), Sm03.sign (Sm03.not_ a), Sm03.sign (Sm03.not_ b)]]
def spCoC : Sp := fun vs H Q _ => ∃ l : Nat, vs = [.int l] ∧ NewC H Q (Sm03.claimClause l)
def spAllC (CS CG : Addr) : Sp := fun vs H Q _ => ∃ (A : Ad) (s : Sm03.St), vs = [.ref A.sa] ∧ SAt CS CG A H s ∧ NewC H Q (Sm03.clauses s.now.graph s.now.terms s.now.claims)
/-- what is told of a node, in a dict -/
def ToldAt (kvs : List (Key × V)) (ns vs : List Nat) : Prop := ∀ m : Nat, valV kvs (Sum.inl (m : Int)) = (BS.look ns vs m).map fun v => V.int (v : Int)
def spHolds : Sp := fun vs H Q _ => ∃ (c d : Addr) (xs : List Int) (kvs : List (Key × V)) (ns us : List Nat), vs = [.ref c, .ref d] ∧ H c = some (.lst (xs.map V.int)) ∧ H d = some (.dK kvs) ∧ ToldAt kvs ns us ∧ ns.length = us.length ∧ (∀ x ∈ xs, x ≠ 0 ∧ x.natAbs ∈ ns) ∧ Q (.bl (Sm03.holds (Sm03.valAt ns us) xs)) H
theorem Cla.ext {H3 H4 : Hp} {fo : Addr} {o o' : HO} {rs rs' : List Addr} {acc cs : List (List Int)} (hC : Cla H3 rs acc) (s : Same H3 H4) (hf : H3 fo = some o) (hR : ∀ r ∈ rs, r ≠ fo) (h' : Cla H4 rs' cs) (hn : ∀ r ∈ rs', H3 r = none) :
    Cla (upd H4 fo o') (rs ++ rs') (acc ++ cs) ∧ ∀ r ∈ rs ++ rs', r ≠ fo := by
  have hR' : ∀ r ∈ rs', r ≠ fo := fun r hr => (ne_of_none hf (hn r hr)).symm
  refine ⟨((hC.same s).mono fun r hr xs e => ?_).app (h'.mono fun r hr xs e => ?_), fun r hr => ?_⟩
  · rw [upd_ne (hR r hr)]; exact e
  · rw [upd_ne (hR' r hr)]; exact e
  · rcases List.mem_append.mp hr with hr | hr
    · exact hR r hr
    · exact hR' r hr
theorem flat_snoc {α β : Type} {f : α → List β} {l : List α} {i : Nat} {x : α} (h : l[i]? = some x) : (l.take (i + 1)).flatMap f = (l.take i).flatMap f ++ f x := by
  rw [List.take_add_one, h, List.flatMap_append]
  show _ ++ (f x ++ []) = _
  rw [List.append_nil]
theorem ixN_nat {n j : Nat} (h : j < n) : ixN n (j : Int) = some j := by
  unfold ixN
  rw [if_pos (by omega), if_pos (by omega), Int.toNat_natCast]
theorem rep_bl (b : Bool) (n : Nat) : (List.replicate n [V.bl b]).flatten = (List.replicate n b).map V.bl := by
  induction n with
  | zero => rfl
  | succ n ih => rw [List.replicate_succ, List.flatten_cons, ih, List.replicate_succ]; rfl
theorem set_bl (B : List Bool) (j : Nat) (b : Bool) : (B.map V.bl).set j (.bl b) = (B.set j b).map V.bl := (List.map_set).symm
theorem at_bl {B : List Bool} {m : Nat} (h : m < B.length) : (B.map V.bl)[m]? = some (.bl (BS.at_ B m)) := by
  unfold BS.at_
  rw [List.getElem?_map, List.getD_eq_getElem?_getD, List.getElem?_eq_getElem h]
  rfl
theorem sign_prog (l : Nat) : (if (l : Int) % 2 = 1 then -((l : Int) / 2) else (l : Int) / 2) = Sm03.sign l := by
  unfold Sm03.sign
  by_cases h : l % 2 = 0
  · rw [if_pos h, if_neg (by omega)]; omega
  · rw [if_neg h, if_pos (by omega)]; omega
end BC

set_option Elab.async false
set_option linter.all false
set_option maxRecDepth 100000
set_option maxHeartbeats 2000000
namespace BC
open PySem PySem.Spec PyProof.Rows L2
section
variable {P : Program} {w : World} {K : PySem.W.Frag} {mg : Str → Option Value} {base : Heap} {CG CS CW : Addr} {f : Addr} {fd : FuncData}
abbrev s_Gates_pair : Stmt := inClass (top 25) 2
abbrev N_Gates_pair : List Str := ["self", "n"]
theorem sc_Gates_pair : FnScope N_Gates_pair ["self", "n"] (defScope s_Gates_pair) := ⟨rfl, rfl, rfl, by decide +kernel, rfl, by decide +kernel, by decide +kernel⟩
theorem ok_Gates_pair (F : Fun K "pair" "Gates.pair" s_Gates_pair f fd) (T_Gates : TGates K CG) : FnOk P w K mg base CX0 1 f fd ["self", "n"] (spPair CG) := by
  refine F.ok sc_Gates_pair (fun vs H Q E h => ?_) (fun cdv A outer s H vs Q E hr h => ?_)
  · obtain ⟨_, _, _, _, _, rfl, _⟩ := h
    rfl
  · obtain ⟨ga, n, k, g, i, rfl, hG, h1, h2, q⟩ := h
    obtain ⟨dx, hi⟩ := hG.ins
    obtain ⟨vs, hv, hN⟩ := hG.nodes
    have hu := hu_of hr
    refine ⟨_, (pss_one (ps_ret (pe_ix ix_list (pe_fld (pv 0) rfl) (pe_op op_sub (pv 1) pe_int) (fun _ _ => rfl)))), ?_⟩
    have vl := hN.len
    have hv' : vs[i - 1]? = some (vs[i - 1]'(by omega)) := List.getElem?_eq_getElem _
    refine ⟨_, rfl, ga, CG, dx, _, _, rfl, hi, T_Gates.cl, T_Gates.nN, gF_nodes n k, _, rfl, _, _, rfl, rfl, n, _, _, _, rfl, rfl, .inl (.inl hv), ?_, q _ (hN.at hv')⟩
    rw [show (i : Int) - 1 = ((i - 1 : Nat) : Int) by omega]
    exact atI_nat hv'

abbrev s_in_clause : Stmt := top 86
abbrev N_in_clause : List Str := ["literal"]
theorem sc_in_clause : FnScope N_in_clause ["literal"] (defScope s_in_clause) := ⟨rfl, rfl, rfl, by decide +kernel, rfl, by decide +kernel, by decide +kernel⟩
theorem ok_in_clause (F : Fun K "in_clause" "in_clause" s_in_clause f fd) : FnOk P w K mg base CX0 1 f fd ["literal"] (spSign) := by
  refine F.ok sc_in_clause (fun vs H Q E h => ?_) (fun cdv A outer s H vs Q E hr h => ?_)
  · obtain ⟨_, rfl, _⟩ := h
    rfl
  · obtain ⟨l, rfl, q⟩ := h
    have hu := hu_of hr
    refine ⟨_, (pss_cons (ps_if (pt_cmpR op_eq (pe_op op_mod (pv 0) pe_int) pe_int (nomark _))
      (pss_one (ps_ret (pe_un un_neg (pe_op op_fdiv (pv 0) pe_int))))
      pss_nil)
      (pss_one (ps_ret (pe_op op_fdiv (pv 0) pe_int)))), ?_⟩
    rw [← sign_prog] at q
    refine ⟨_, rfl, _, _, rfl, rfl, (show (0 : Int) < 2 by decide), rfl, _, rfl, ?_⟩
    by_cases hm : (l : Int) % 2 = 1
    · rw [if_pos hm] at q
      refine if_true_of (decide_eq_true (by show V.int ((l : Int) % 2) = V.int 1; rw [hm])) ?_
      exact ⟨_, rfl, _, _, rfl, rfl, ⟨by decide, by decide⟩, _, rfl, q⟩
    · rw [if_neg hm] at q
      refine if_false_of (decide_eq_false (fun z => hm (by injection z))) ?_
      exact ⟨_, rfl, _, _, rfl, rfl, ⟨by decide, by decide⟩, q⟩

abbrev s_clauses_of_gate : Stmt := top 87
abbrev N_clauses_of_gate : List Str := ["n", "pair", "x", "y"]
theorem sc_clauses_of_gate : FnScope N_clauses_of_gate ["n", "pair"] (defScope s_clauses_of_gate) := ⟨rfl, rfl, rfl, by decide +kernel, rfl, by decide +kernel, by decide +kernel⟩
theorem ok_clauses_of_gate (F : Fun K "clauses_of_gate" "clauses_of_gate" s_clauses_of_gate f fd) (D_in_clause : DF P w K mg base 1 "in_clause" (spSign)) : FnOk P w K mg base CX0 2 f fd ["n", "pair"] (spCoG) := by
  refine F.ok sc_clauses_of_gate (fun vs H Q E h => ?_) (fun cdv A outer s H vs Q E hr h => ?_)
  · obtain ⟨_, _, _, _, rfl, _⟩ := h
    rfl
  · obtain ⟨n, qa, a, b, rfl, hq, q⟩ := h
    have hu := hu_of hr
    refine ⟨_, (pss_cons (ps_set (i := 2) sc_clauses_of_gate.nd rfl (Or.inl rfl) (pe_df D_in_clause hr (pa_cons (pe_ix ix_tup (pv 1) pe_int (fun _ _ => rfl)) pa_nil)))
      (pss_cons (ps_set (i := 3) sc_clauses_of_gate.nd rfl (Or.inl rfl) (pe_df D_in_clause hr (pa_cons (pe_ix ix_tup (pv 1) pe_int (fun _ _ => rfl)) pa_nil)))
      (pss_one (ps_ret (pe_lst (pa_cons (pe_lst (pa_cons (pe_un un_neg (pv 0)) (pa_cons (pv 2) pa_nil))) (pa_cons (pe_lst (pa_cons (pe_un un_neg (pv 0)) (pa_cons (pv 3) pa_nil))) (pa_cons (pe_lst (pa_cons (pv 0) (pa_cons (pe_un un_neg (pv 2)) (pa_cons (pe_un un_neg (pv 3)) pa_nil)))) pa_nil)))))))), ?_⟩
    have hq' : H qa = some (.tup (lits [a, b])) := hq
    refine ⟨_, rfl, qa, _, _, _, rfl, rfl, .inl (.inl hq'), at0 _ _, a, rfl, ?_⟩
    refine ⟨_, rfl, qa, _, _, _, rfl, rfl, .inl (.inl hq'), at1 _ _ _, b, rfl, ?_⟩
    refine ⟨_, rfl, _, rfl, _, rfl, (by show 2 ≤ sizeLine; decide), fun c1 hc1 => ?_⟩
    refine ⟨_, rfl, _, rfl, _, rfl, (by show 2 ≤ sizeLine; decide), fun c2 hc2 => ?_⟩
    refine ⟨_, rfl, _, rfl, _, rfl, _, rfl, _, rfl, (by show 3 ≤ sizeLine; decide), fun c3 hc3 => ?_⟩
    refine ⟨(by show 3 ≤ sizeLine; decide), fun p hp => ?_⟩
    obtain ⟨f2, n21⟩ := free_upd hc2
    obtain ⟨f3, n32⟩ := free_upd hc3
    obtain ⟨f3', n31⟩ := free_upd f3
    obtain ⟨f4, n43⟩ := free_upd hp
    obtain ⟨f4', n42⟩ := free_upd f4
    obtain ⟨f4'', n41⟩ := free_upd f4'
    have s4 := ((same_upd (o := .lst [.int (-(n : Int)), .int (Sm03.sign a)]) hc1).trans (same_upd (o := .lst [.int (-(n : Int)), .int (Sm03.sign b)]) hc2)).trans ((same_upd (o := .lst [.int (n : Int), .int (-Sm03.sign a), .int (-Sm03.sign b)]) hc3).trans (same_upd (o := .lst [.ref c1, .ref c2, .ref c3]) hp))
    rw [BS.sign_not, BS.sign_not, Int.zero_sub] at q
    refine q p _ [c1, c2, c3] s4 f4'' upd_same (.cons ?_ (.cons ?_ (.cons ?_ .nil))) ?_
    · rw [upd_ne n41.symm, upd_ne n31.symm, upd_ne n21.symm]; exact upd_same
    · rw [upd_ne n42.symm, upd_ne n32.symm]; exact upd_same
    · rw [upd_ne n43.symm]; exact upd_same
    · intro r hr
      simp only [List.mem_cons, List.not_mem_nil, or_false] at hr
      rcases hr with rfl | rfl | rfl
      · exact hc1
      · exact f2
      · exact f3'

abbrev s_clauses_of_claim : Stmt := top 88
abbrev N_clauses_of_claim : List Str := ["literal"]
theorem sc_clauses_of_claim : FnScope N_clauses_of_claim ["literal"] (defScope s_clauses_of_claim) := ⟨rfl, rfl, rfl, by decide +kernel, rfl, by decide +kernel, by decide +kernel⟩
theorem ok_clauses_of_claim (F : Fun K "clauses_of_claim" "clauses_of_claim" s_clauses_of_claim f fd) (g_ALWAYS : GI mg "ALWAYS" 1) (g_NEVER : GI mg "NEVER" 0) (D_in_clause : DF P w K mg base 1 "in_clause" (spSign)) : FnOk P w K mg base CX0 2 f fd ["literal"] (spCoC) := by
  refine F.ok sc_clauses_of_claim (fun vs H Q E h => ?_) (fun cdv A outer s H vs Q E hr h => ?_)
  · obtain ⟨_, rfl, _⟩ := h
    rfl
  · obtain ⟨l, rfl, q⟩ := h
    have hu := hu_of hr
    refine ⟨_, (pss_cons (ps_if (pt_cmpR op_eq (pv 0) (pe_gi g_ALWAYS) (nomark _))
      (pss_one (ps_ret (pe_lst pa_nil)))
      pss_nil)
      (pss_cons (ps_if (pt_cmpR op_eq (pv 0) (pe_gi g_NEVER) (nomark _))
      (pss_one (ps_ret (pe_lst (pa_cons (pe_lst pa_nil) pa_nil))))
      pss_nil)
      (pss_one (ps_ret (pe_lst (pa_cons (pe_lst (pa_cons (pe_df D_in_clause hr (pa_cons (pv 0) pa_nil)) pa_nil)) pa_nil)))))), ?_⟩
    unfold Sm03.claimClause at q
    refine ⟨_, rfl, rfl, _, rfl, ?_⟩
    rw [show decide (V.int (l : Int) = V.int 1) = decide (l = 1) from dec_eqN l 1]
    by_cases c1 : l = 1
    · refine if_true_of (decide_eq_true c1) ?_
      rw [if_pos c1] at q
      exact ⟨Nat.zero_le _, fun p hp => q p _ [] (same_upd hp) hp upd_same .nil fun r hr => by cases hr⟩
    refine if_false_of (decide_eq_false c1) ?_
    rw [if_neg c1] at q
    refine ⟨_, rfl, rfl, _, rfl, ?_⟩
    rw [show decide (V.int (l : Int) = V.int 0) = decide (l = 0) from dec_eqN l 0]
    by_cases c2 : l = 0
    · refine if_true_of (decide_eq_true c2) ?_
      rw [if_pos c2] at q
      refine ⟨Nat.zero_le _, fun c hc => ⟨(by show 1 ≤ sizeLine; decide), fun p hp => ?_⟩⟩
      obtain ⟨f1, n1⟩ := free_upd hp
      refine q p _ [c] ((same_upd hc).trans (same_upd hp)) f1 upd_same (.cons ?_ .nil) fun r hr => by rw [List.mem_singleton] at hr; rw [hr]; exact hc
      rw [upd_ne n1.symm]; exact upd_same
    refine if_false_of (decide_eq_false c2) ?_
    rw [if_neg c2] at q
    refine ⟨_, rfl, l, rfl, (by show 1 ≤ sizeLine; decide), fun c hc => ⟨(by show 1 ≤ sizeLine; decide), fun p hp => ?_⟩⟩
    obtain ⟨f1, n1⟩ := free_upd hp
    refine q p _ [c] ((same_upd hc).trans (same_upd hp)) f1 upd_same (.cons ?_ .nil) fun r hr => by rw [List.mem_singleton] at hr; rw [hr]; exact hc
    rw [upd_ne n1.symm]; exact upd_same
end
end BC

set_option Elab.async false
set_option linter.all false
set_option maxRecDepth 100000
set_option maxHeartbeats 2000000
namespace BC
open PySem PySem.Spec PyProof.Rows L2
section
variable {P : Program} {w : World} {K : PySem.W.Frag} {mg : Str → Option Value} {base : Heap} {CG CS CW : Addr} {f : Addr} {fd : FuncData}
abbrev s_needed_nodes : Stmt := top 85
abbrev N_needed_nodes : List Str := ["state", "size", "needed", "name", "n", "pair"]
theorem sc_needed_nodes : FnScope N_needed_nodes ["state"] (defScope s_needed_nodes) := ⟨rfl, rfl, rfl, by decide +kernel, rfl, by decide +kernel, by decide +kernel⟩
theorem ok_needed_nodes (F : Fun K "needed_nodes" "needed_nodes" s_needed_nodes f fd) (T_State : TState K CS) (D_size : DM P w K mg base CG 1 "size" (spSize CG)) (b_range : mg "range" = none) (D_pair : DM P w K mg base CG 1 "pair" (spPair CG)) : FnOk P w K mg base CX0 2 f fd ["state"] (spNeed CS CG) := by
  refine F.ok sc_needed_nodes (fun vs H Q E h => ?_) (fun cdv A outer s H vs Q E hr h => ?_)
  · obtain ⟨_, _, rfl, _⟩ := h
    rfl
  · obtain ⟨A, s, rfl, hS, q⟩ := h
    obtain ⟨dx, h1⟩ := hS.ins
    obtain ⟨dg, hg⟩ := hS.gat.ins
    have hu := hu_of hr
    refine ⟨_, (pss_cons (ps_set (i := 1) sc_needed_nodes.nd rfl (Or.inl rfl) (pe_dm0 (pe_fld (pv 0) rfl) D_size hr))
      (pss_cons (ps_set (i := 2) sc_needed_nodes.nd rfl (Or.inr rfl) (pe_op op_rep (pe_lst (pa_cons pe_bl pa_nil)) (pe_op op_add (pv 1) pe_int)))
      (pss_cons (ps_for PassesOwn.never rfl (pi_list (pe_fld (pv 0) rfl)) (pg_name (i := 3) sc_needed_nodes.nd rfl (Or.inl rfl))
      (pss_one (ps_asg pe_bl (pg_sub (pv 2) (pe_op op_fdiv (pe_ix ix_list (pe_ix ix_list (pe_fld (pv 0) rfl) (pv 3) (fun _ _ => rfl)) pe_int (fun _ _ => rfl)) pe_int) set_list))))
      (pss_cons (ps_for PassesOwn.never rfl (pi_range3 (by rfl) b_range (pa_cons (pv 1) (pa_cons pe_int (pa_cons (pe_un un_neg pe_int) pa_nil)))) (pg_name (i := 4) sc_needed_nodes.nd rfl (Or.inl rfl))
      (pss_cons (ps_set (i := 5) sc_needed_nodes.nd rfl (Or.inl rfl) (pe_dm (pe_fld (pv 0) rfl) D_pair hr (pa_cons (pv 4) pa_nil)))
      (pss_one (ps_if (PW.pt (pw_and (pt_val (pe_ix ix_list (pv 2) (pv 4) (fun _ _ => rfl))) (pw_and1 (pt_cmpR op_notN (pv 5) pe_non (nomark _)))))
      (pss_cons (ps_asg pe_bl (pg_sub (pv 2) (pe_op op_fdiv (pe_ix ix_tup (pv 5) pe_int (fun _ _ => rfl)) pe_int) set_list))
      (pss_one (ps_asg pe_bl (pg_sub (pv 2) (pe_op op_fdiv (pe_ix ix_tup (pv 5) pe_int (fun _ _ => rfl)) pe_int) set_list))))
      pss_nil))))
      (pss_one (ps_ret (pe_lc (own := [("n", 4)]) (g := gName 4) (tt := tB (tOp (rIxL K) (tVar 2) (tVar 4))) rfl sc_needed_nodes.nd (pi_range2 (by rfl) b_range (pa_cons pe_int (pa_cons (pe_op op_add (pv 1) pe_int) pa_nil))) (blkOk_by (N := N_needed_nodes) (sc := defScope s_needed_nodes) (by decide +kernel)) (fun _ _ _ _ _ => (pg_name (i := 4) sc_needed_nodes.nd rfl (Or.inl rfl))) (fun _ _ _ _ _ => (pts_one (pt_val (pe_ix ix_list (pv 2) (pv 4) (fun _ _ => rfl))))) (fun _ _ _ _ _ => (pv 4))))))))), ?_⟩
    have hW := hS.wf
    have gl := hW.gl
    have hL : (2000 : Nat) ≤ LIM := by decide
    have hL2 := lim_lt (Nat.le_refl LIM)
    refine ⟨_, rfl, A.sa, CS, dx, _, _, rfl, h1, T_State.cl, T_State.nG, sF_gates A, A.ga, dg, _, rfl, hg, by rfl, A.ga, A.n, A.k, _, rfl, hS.gat, ?_⟩
    refine ⟨(by show 1 ≤ sizeLine; decide), fun e0 he0 => ⟨_, rfl, _, _, rfl, rfl, e0, _, _, rfl, rfl, upd_same, by omega, by omega, ?_, fun nd hnd => ?_⟩⟩
    · show 1 * ((s.now.graph.length : Int) + 1).toNat ≤ sizeLine
      omega
    rw [show ((s.now.graph.length : Int) + 1).toNat = s.now.graph.length + 1 by omega, rep_bl]
    obtain ⟨hnd0, _⟩ := free_upd hnd
    have s2 : Same H (upd (upd H e0 (.lst [.bl false])) nd (.lst ((List.replicate (s.now.graph.length + 1) false).map V.bl))) := (same_upd he0).trans (same_upd hnd)
    have e2 : (upd (upd H e0 (.lst [.bl false])) nd (.lst ((List.replicate (s.now.graph.length + 1) false).map V.bl))) nd = some (.lst ((List.replicate (s.now.graph.length + 1) false).map V.bl)) := upd_same
    generalize (upd (upd H e0 (.lst [.bl false])) nd (.lst ((List.replicate (s.now.graph.length + 1) false).map V.bl))) = H2 at s2 e2 ⊢
    have hS2 := hS.same s2
    obtain ⟨dx2, h12⟩ := hS2.ins
    refine ⟨_, rfl, A.sa, CS, dx2, _, _, rfl, h12, T_State.cl, T_State.nC, sF_claims A, A.pc, rfl, ⟨_, .inl (.inl hS2.claims)⟩, ?_⟩
    refine for_it (walk_list (K := K) (a := A.pc) (xs := lits s.now.claims))
      (fun i σ H3 => Same H H3 ∧ ∃ (B : List Bool) (v3 : Option V), σ = [some (.ref A.sa), some (.int (s.now.graph.length : Int)), some (.ref nd), v3, none, none] ∧ H3 nd = some (.lst (B.map V.bl)) ∧ BS.Marks s.now.graph.length B ((s.now.claims.take i).map fun c => Sm03.last (Sm03.wordOf s.now.terms c) / 2))
      ⟨s2, _, none, rfl, e2, BS.Marks.start _⟩ (fun i σ H3 _ h => .inl (.inl (h.1 _ _ hS.claims))) ?_ ?_
    · rintro i v σ H3 H4 hi ⟨s3, B, v3, rfl, e3, hM⟩ ⟨rfl, hx'⟩
      obtain ⟨c, hc, rfl⟩ := lits_at hx'
      obtain ⟨c1, c2⟩ := hW.cw c (List.mem_of_getElem? hc)
      have hS3 := hS.same s3
      obtain ⟨dx3, h13⟩ := hS3.ins
      obtain ⟨rs, r, g3, g4, g5⟩ := hS3.word c1
      obtain ⟨x, hx⟩ := BS.word1 c2
      have hxl : x / 2 < s.now.graph.length + 1 := hW.lits (t := c) (by rw [hx]; exact List.mem_singleton.mpr rfl)
      have g5' := g5.1
      rw [hx] at g5'
      have hBl := hM.len
      refine ⟨_, rfl, _, rfl, A.sa, CS, dx3, _, _, rfl, h13, T_State.cl, T_State.nT, sF_terms A, _, rfl, A.pt, _, _, _, rfl, rfl, .inl (.inl g3), atI_nat g4, r, _, _, _, rfl, rfl, .inl (.inl g5'), at0 _ _, _, _, rfl, rfl, ⟨by decide, by decide⟩, nd, _, _, x / 2, rfl, rfl, e3, ?_, ?_⟩
      · rw [show (x : Int) / 2 = ((x / 2 : Nat) : Int) by omega, List.length_map]
        exact ixN_nat (by omega)
      · refine ⟨same_updN s3 hnd0, B.set (x / 2) true, _, rfl, by rw [upd_same, set_bl], ?_⟩
        refine (hM.put (j := x / 2) (by omega)).perm fun m => ?_
        rw [List.take_add_one, hc, List.map_append, List.contains_cons, List.contains_append]
        show _ = (_ || ([Sm03.last (Sm03.wordOf s.now.terms c) / 2]).contains m)
        rw [hx]
        show _ = (_ || (m == x / 2 || false))
        rw [Bool.or_false, Bool.or_comm]
    rintro σ H3 ⟨s3, B, v3, rfl, e3, hM⟩
    rw [lits_len, List.take_length] at hM
    have hM' : BS.Marks s.now.graph.length B ((Sm03.claimed s.now.terms s.now.claims).map fun l => l / 2) := by
      unfold Sm03.claimed
      rw [List.map_map]
      exact hM
    have hC := BS.ConeI.start hM'
    refine ⟨_, rfl, _, rfl, (s.now.graph.length : Int), 0, -1, s.now.graph.length, rfl, ?_, ?_⟩
    · have := RgC.neg (i := (s.now.graph.length : Int)) (j := 0) (by omega) (by omega) (by omega) (by omega)
      rw [Int.sub_zero, Int.toNat_natCast] at this
      exact this
    refine for_it (walk_rangeC (lo := (s.now.graph.length : Int)) (c := -1) (n := s.now.graph.length))
      (fun i σ H4 => Same H H4 ∧ ∃ (B : List Bool) (v3 v4 v5 : Option V), σ = [some (.ref A.sa), some (.int (s.now.graph.length : Int)), some (.ref nd), v3, v4, v5] ∧ H4 nd = some (.lst (B.map V.bl)) ∧ B.length = s.now.graph.length + 1 ∧ BS.ConeI s.now.graph (Sm03.cone s.now.graph s.now.terms s.now.claims) (s.now.graph.length - i) B)
      ⟨s3, B, v3, none, none, rfl, e3, hM.len, hC⟩ (fun i σ H4 _ h => trivial) ?_ ?_
    · rintro i v σ H4 H5 hi ⟨s4, B, v3, v4, v5, rfl, e4, hBl, hC⟩ ⟨rfl, hv⟩
      obtain ⟨m, hm⟩ : ∃ m, s.now.graph.length - i = m + 1 := ⟨s.now.graph.length - i - 1, by omega⟩
      have hm2 : s.now.graph.length - (i + 1) = m := by omega
      have hv' : v = .int ((m + 1 : Nat) : Int) := by rw [hv]; exact congrArg V.int (by omega)
      subst hv'
      rw [hm] at hC
      rw [hm2]
      have hS4 := hS.same s4
      obtain ⟨dx4, h14⟩ := hS4.ins
      obtain ⟨dg4, hg4⟩ := hS4.gat.ins
      refine ⟨_, rfl, A.sa, CS, dx4, _, _, rfl, h14, T_State.cl, T_State.nG, sF_gates A, A.ga, dg4, _, rfl, hg4, by rfl, _, rfl, A.ga, A.n, A.k, _, m + 1, rfl, hS4.gat, by omega, by omega, fun pv hpv => ?_⟩
      rw [Nat.add_sub_cancel] at hpv
      refine ⟨_, rfl, _, rfl, nd, _, _, _, rfl, rfl, .inl (.inl e4), atI_nat (at_bl (m := m + 1) (by omega)), _, rfl, ?_⟩
      cases hb : BS.at_ B (m + 1) with
      | false => exact if_false_of rfl (if_false_of rfl ⟨s4, B, v3, _, _, rfl, e4, hBl, hC.skip (.inl hb)⟩)
      | true =>
        refine if_true_of rfl ⟨_, rfl, rfl, _, rfl, ?_⟩
        rcases hpv with ⟨hg, rfl⟩ | ⟨qa, a, b, hg, rfl, hq⟩
        · exact if_false_of rfl ⟨s4, B, v3, _, _, rfl, e4, hBl, hC.skip (.inr hg)⟩
        · refine if_true_of (by rw [decide_eq_false (by intro z; cases z)]; rfl) ?_
          have hq' : H5 qa = some (.tup (lits [a, b])) := hq
          obtain ⟨l1, l2, l3⟩ := hW.gd.ea m a b hg
          refine ⟨_, rfl, _, rfl, qa, _, _, _, rfl, rfl, .inl (.inl hq'), at0 _ _, _, _, rfl, rfl, ⟨by decide, by decide⟩, nd, _, _, a / 2, rfl, rfl, e4, ?_, ?_⟩
          · rw [show (a : Int) / 2 = ((a / 2 : Nat) : Int) by omega, List.length_map]
            exact ixN_nat (by omega)
          have hq'' : (upd H5 nd (.lst ((B.map V.bl).set (a / 2) (.bl true)))) qa = some (.tup (lits [a, b])) := by rw [upd_ne (ne_of hq' e4 (by intro z; cases z))]; exact hq'
          refine ⟨_, rfl, _, rfl, qa, _, _, _, rfl, rfl, .inl (.inl hq''), at1 _ _ _, _, _, rfl, rfl, ⟨by decide, by decide⟩, nd, _, _, b / 2, rfl, rfl, upd_same, ?_, ?_⟩
          · rw [show (b : Int) / 2 = ((b / 2 : Nat) : Int) by omega, List.length_set, List.length_map]
            exact ixN_nat (by omega)
          rw [upd_upd, set_bl, set_bl]
          exact ⟨same_updN s4 hnd0, _, v3, _, _, rfl, upd_same, by rw [List.length_set, List.length_set]; exact hBl, hC.gate hW.gd.ea hb hg⟩
    rintro σ H4 ⟨s4, B, v3, v4, v5, rfl, e4, hBl, hC⟩
    rw [Nat.sub_self] at hC
    refine ⟨_, rfl, _, _, rfl, rfl, _, _, rfl, ⟨by omega, by omega, by omega, by omega⟩, fun D hD => ?_⟩
    rw [show ((s.now.graph.length : Int) + 1 - 1).toNat = s.now.graph.length by omega]
    refine lc_gen walk_range (fun k => BS.at_ B (1 + k)) (fun k => .int ((1 + k : Nat) : Int)) (by omega) hD (fun _ _ => trivial) ?_ ?_
    · rintro i x H5 H6 hi s5 ⟨rfl, hx⟩ R N r1 r2
      have hx' : x = .int ((1 + i : Nat) : Int) := by rw [hx]; exact congrArg V.int (by omega)
      subst hx'
      refine ⟨rfl, _, rfl, _, rfl, nd, _, _, _, rfl, rfl, .inl (.inl (s5 _ _ e4)), atI_nat (at_bl (m := 1 + i) (by omega)), _, rfl, ?_⟩
      cases hb : BS.at_ B (1 + i) with
      | true => exact if_true_of rfl ⟨_, rfl, r1 _ (Same.refl _) hb⟩
      | false => exact if_false_of rfl (r2 _ (Same.refl _) hb)
    · intro H5 s5 e5
      refine q D H5 (s4.trans s5) (s4.free hD) ?_
      rw [e5, hC.fin, List.filter_map]
      show some (HO.lst _) = some (HO.lst (List.map _ _))
      rw [List.map_map]
      rfl

abbrev s_all_clauses : Stmt := top 89
abbrev N_all_clauses : List Str := ["state", "found", "n", "pair", "name"]
theorem sc_all_clauses : FnScope N_all_clauses ["state"] (defScope s_all_clauses) := ⟨rfl, rfl, rfl, by decide +kernel, rfl, by decide +kernel, by decide +kernel⟩
theorem ok_all_clauses (F : Fun K "all_clauses" "all_clauses" s_all_clauses f fd) (D_needed_nodes : DF P w K mg base 2 "needed_nodes" (spNeed CS CG)) (T_State : TState K CS) (D_pair : DM P w K mg base CG 1 "pair" (spPair CG)) (D_clauses_of_gate : DF P w K mg base 2 "clauses_of_gate" (spCoG)) (D_clauses_of_claim : DF P w K mg base 2 "clauses_of_claim" (spCoC)) : FnOk P w K mg base CX0 3 f fd ["state"] (spAllC CS CG) := by
  refine F.ok sc_all_clauses (fun vs H Q E h => ?_) (fun cdv A outer s H vs Q E hr h => ?_)
  · obtain ⟨_, _, rfl, _⟩ := h
    rfl
  · obtain ⟨A, s, rfl, hS, q⟩ := h
    have hu := hu_of hr
    refine ⟨_, (pss_cons (ps_set (i := 1) sc_all_clauses.nd rfl (Or.inl rfl) (pe_lst pa_nil))
      (pss_cons (ps_for PassesOwn.never rfl (pi_list (pe_df D_needed_nodes hr (pa_cons (pv 0) pa_nil))) (pg_name (i := 2) sc_all_clauses.nd rfl (Or.inl rfl))
      (pss_cons (ps_set (i := 3) sc_all_clauses.nd rfl (Or.inl rfl) (pe_dm (pe_fld (pv 0) rfl) D_pair (hr.mono (by decide)) (pa_cons (pv 2) pa_nil)))
      (pss_one (ps_if (pt_cmpR op_notN (pv 3) pe_non (nomark _))
      (pss_one (ps_expr (pe_bm PySem.F.plainAttrs_list PySem.F.slot_list_extend PySem.F.type_list_extend mt_extend (pv 1) (pa_cons (pe_df D_clauses_of_gate hr (pa_cons (pv 2) (pa_cons (pv 3) pa_nil))) pa_nil))))
      pss_nil))))
      (pss_cons (ps_for PassesOwn.never rfl (pi_list (pe_fld (pv 0) rfl)) (pg_name (i := 4) sc_all_clauses.nd rfl (Or.inl rfl))
      (pss_one (ps_expr (pe_bm PySem.F.plainAttrs_list PySem.F.slot_list_extend PySem.F.type_list_extend mt_extend (pv 1) (pa_cons (pe_df D_clauses_of_claim hr (pa_cons (pe_ix ix_list (pe_ix ix_list (pe_fld (pv 0) rfl) (pv 4) (fun _ _ => rfl)) pe_int (fun _ _ => rfl)) pa_nil)) pa_nil)))))
      (pss_one (ps_ret (pv 1)))))), ?_⟩
    have hW := hS.wf
    have gl := hW.gl
    have cl := hW.cl
    have hL : (5000 : Nat) ≤ LIM := by decide
    have hL2 := lim_lt (Nat.le_refl LIM)
    refine ⟨Nat.zero_le _, fun fo hfo => ?_⟩
    have s0 := same_upd (o := .lst []) hfo
    refine ⟨_, rfl, A, s, rfl, hS.same s0, fun np H1 s1 hnp e1 => ?_⟩
    have s01 := s0.trans s1
    have cm : ∀ n ∈ Sm03.cone s.now.graph s.now.terms s.now.claims, 1 ≤ n ∧ n ≤ s.now.graph.length := fun n hn => BS.cone_mem _ _ _ hn
    have cl1 : (Sm03.cone s.now.graph s.now.terms s.now.claims).length ≤ s.now.graph.length := BS.cone_len _ _
    refine ⟨np, rfl, ⟨_, .inl (.inl e1)⟩, ?_⟩
    refine for_it (walk_list (K := K) (a := np) (xs := lits (Sm03.cone s.now.graph s.now.terms s.now.claims)))
      (fun i σ H2 => Same H H2 ∧ H2 np = some (.lst (lits (Sm03.cone s.now.graph s.now.terms s.now.claims))) ∧ ∃ (rs : List Addr) (v2 v3 : Option V), σ = [some (.ref A.sa), some (.ref fo), v2, v3, none] ∧ H2 fo = some (.lst (rs.map V.ref)) ∧ Cla H2 rs (((Sm03.cone s.now.graph s.now.terms s.now.claims).take i).flatMap (Sm03.gateClauses s.now.graph)) ∧ ∀ r ∈ rs, H r = none ∧ r ≠ fo)
      ⟨s01, e1, [], none, none, rfl, s1 _ _ upd_same, .nil, fun r hr => by cases hr⟩ (fun i σ H2 _ h => .inl (.inl h.2.1)) ?_ ?_
    · rintro i v σ H2 H3 hi ⟨s2, n2, rs, v2, v3, rfl, f2, hC, hR⟩ ⟨rfl, hx'⟩
      obtain ⟨n, hn, rfl⟩ := lits_at hx'
      rw [lits_len] at hi
      obtain ⟨m1, m2⟩ := cm n (List.mem_of_getElem? hn)
      have hS2 := hS.same s2
      obtain ⟨dx2, h12⟩ := hS2.ins
      obtain ⟨dg2, hg2⟩ := hS2.gat.ins
      have npf : np ≠ fo := (free_upd hnp).2
      have rl := hC.len
      have fl := BS.flat_len (BS.gateC_len s.now.graph) ((Sm03.cone s.now.graph s.now.terms s.now.claims).take i)
      rw [List.length_take] at fl
      rw [flat_snoc hn]
      refine ⟨_, rfl, A.sa, CS, dx2, _, _, rfl, h12, T_State.cl, T_State.nG, sF_gates A, A.ga, dg2, _, rfl, hg2, by rfl, _, rfl, A.ga, A.n, A.k, _, n, rfl, hS2.gat, m1, m2, fun pv hpv => ?_⟩
      refine ⟨_, rfl, rfl, _, rfl, ?_⟩
      rcases hpv with ⟨hg, rfl⟩ | ⟨qa, a, b, hg, rfl, hq⟩
      · refine if_false_of rfl ⟨s2, n2, rs, _, _, rfl, f2, ?_, hR⟩
        rw [show Sm03.gateClauses s.now.graph n = [] by unfold Sm03.gateClauses; rw [hg], List.append_nil]
        exact hC
      · refine if_true_of (by rw [decide_eq_false (by intro z; cases z)]; rfl) ?_
        refine ⟨_, rfl, .inl ⟨rfl, _, .inl (.inl f2)⟩, _, rfl, _, rfl, n, qa, a, b, rfl, hq, fun p H4 rs' s4 hp e4 hC4 hn4 => ?_⟩
        have rl' := hC4.len
        obtain ⟨x1, x2⟩ := hC.ext (o' := .lst (rs.map V.ref ++ rs'.map V.ref)) s4 f2 (fun r hr => (hR r hr).2) hC4 hn4
        refine ⟨fo, p, _, _, rfl, rfl, s4 _ _ f2, e4, ?_, ?_⟩
        · rw [List.length_map, List.length_map, rl, rl']
          show _ + 3 ≤ _
          omega
        · refine ⟨same_updN (s2.trans s4) hfo, by rw [upd_ne npf]; exact s4 _ _ n2, rs ++ rs', _, _, rfl, by rw [upd_same, List.map_append], ?_, fun r hr => ⟨?_, x2 r hr⟩⟩
          · rw [show Sm03.gateClauses s.now.graph n = [[0 - (n : Int), Sm03.sign a], [0 - (n : Int), Sm03.sign b], [(n : Int), Sm03.sign (Sm03.not_ a), Sm03.sign (Sm03.not_ b)]] by unfold Sm03.gateClauses; rw [hg]]
            exact x1
          · rcases List.mem_append.mp hr with hr | hr
            · exact (hR r hr).1
            · exact s2.free (hn4 r hr)
    rintro σ H2 ⟨s2, n2, rs, v2, v3, rfl, f2, hC, hR⟩
    rw [lits_len, List.take_length] at hC
    have hS2 := hS.same s2
    obtain ⟨dx2, h12⟩ := hS2.ins
    refine ⟨_, rfl, A.sa, CS, dx2, _, _, rfl, h12, T_State.cl, T_State.nC, sF_claims A, A.pc, rfl, ⟨_, .inl (.inl hS2.claims)⟩, ?_⟩
    have fl0 := BS.flat_len (BS.gateC_len s.now.graph) (Sm03.cone s.now.graph s.now.terms s.now.claims)
    refine for_it (walk_list (K := K) (a := A.pc) (xs := lits s.now.claims))
      (fun i σ H3 => Same H H3 ∧ ∃ (rs : List Addr) (v2 v3 v4 : Option V), σ = [some (.ref A.sa), some (.ref fo), v2, v3, v4] ∧ H3 fo = some (.lst (rs.map V.ref)) ∧ Cla H3 rs ((Sm03.cone s.now.graph s.now.terms s.now.claims).flatMap (Sm03.gateClauses s.now.graph) ++ ((s.now.claims.take i).flatMap fun c => Sm03.claimClause (Sm03.last (Sm03.wordOf s.now.terms c)))) ∧ ∀ r ∈ rs, H r = none ∧ r ≠ fo)
      ⟨s2, rs, v2, v3, none, rfl, f2, by rw [List.take_zero]; show Cla H2 rs (_ ++ []); rw [List.append_nil]; exact hC, hR⟩ (fun i σ H3 _ h => .inl (.inl (h.1 _ _ hS.claims))) ?_ ?_
    · rintro i v σ H3 H4 hi ⟨s3, rs, v2, v3, v4, rfl, f3, hC, hR⟩ ⟨rfl, hx'⟩
      obtain ⟨c, hc, rfl⟩ := lits_at hx'
      rw [lits_len] at hi
      obtain ⟨c1, c2⟩ := hW.cw c (List.mem_of_getElem? hc)
      have hS3 := hS.same s3
      obtain ⟨dx3, h13⟩ := hS3.ins
      obtain ⟨ws, r, g3, g4, g5⟩ := hS3.word c1
      obtain ⟨x, hx⟩ := BS.word1 c2
      have g5' := g5.1
      rw [hx] at g5'
      have rl := hC.len
      have fl := BS.flat_len (f := fun c => Sm03.claimClause (Sm03.last (Sm03.wordOf s.now.terms c))) (fun c => BS.claimC_len _) (s.now.claims.take i)
      rw [List.length_take] at fl
      rw [List.length_append] at rl
      rw [flat_snoc hc, hx, ← List.append_assoc]
      refine ⟨_, rfl, .inl ⟨rfl, _, .inl (.inl f3)⟩, _, rfl, A.sa, CS, dx3, _, _, rfl, h13, T_State.cl, T_State.nT, sF_terms A, _, rfl, A.pt, _, _, _, rfl, rfl, .inl (.inl g3), atI_nat g4, r, _, _, _, rfl, rfl, .inl (.inl g5'), at0 _ _, x, rfl, fun p H5 rs' s5 hp e5 hC5 hn5 => ?_⟩
      have rl' := hC5.len
      have cl5 := BS.claimC_len x
      obtain ⟨x1, x2⟩ := hC.ext (o' := .lst (rs.map V.ref ++ rs'.map V.ref)) s5 f3 (fun r hr => (hR r hr).2) hC5 hn5
      refine ⟨fo, p, _, _, rfl, rfl, s5 _ _ f3, e5, ?_, ?_⟩
      · rw [List.length_map, List.length_map, rl, rl']
        omega
      · refine ⟨same_updN (s3.trans s5) hfo, rs ++ rs', _, _, _, rfl, by rw [upd_same, List.map_append], x1, fun r hr => ⟨?_, x2 r hr⟩⟩
        rcases List.mem_append.mp hr with hr | hr
        · exact (hR r hr).1
        · exact s3.free (hn5 r hr)
    rintro σ H3 ⟨s3, rs, v2, v3, v4, rfl, f3, hC, hR⟩
    rw [lits_len, List.take_length] at hC
    refine ⟨_, rfl, q fo H3 rs s3 hfo f3 ?_ fun r hr => (hR r hr).1⟩
    have e : Sm03.clauses s.now.graph s.now.terms s.now.claims = (Sm03.cone s.now.graph s.now.terms s.now.claims).flatMap (Sm03.gateClauses s.now.graph) ++ (s.now.claims.flatMap fun c => Sm03.claimClause (Sm03.last (Sm03.wordOf s.now.terms c))) := by
      unfold Sm03.clauses Sm03.claimed
      rw [List.flatMap_map]
    rw [e]
    exact hC

abbrev s_holds : Stmt := top 90
abbrev N_holds : List Str := ["clause", "told", "literal"]
theorem sc_holds : FnScope N_holds ["clause", "told"] (defScope s_holds) := ⟨rfl, rfl, rfl, by decide +kernel, rfl, by decide +kernel, by decide +kernel⟩
theorem ok_holds (F : Fun K "holds" "holds" s_holds f fd) (b_abs : mg "abs" = none) : FnOk P w K mg base CX0 1 f fd ["clause", "told"] (spHolds) := by
  refine F.ok sc_holds (fun vs H Q E h => ?_) (fun cdv A outer s H vs Q E hr h => ?_)
  · obtain ⟨_, _, _, _, _, _, rfl, _⟩ := h
    rfl
  · obtain ⟨c, d, xs, kvs, ns, us, rfl, hc, hd, hT, hl, hx, q⟩ := h
    have hu := hu_of hr
    refine ⟨_, (pss_cons (ps_for PassesOwn.never rfl (pi_list (pv 0)) (pg_name (i := 2) sc_holds.nd rfl (Or.inl rfl))
      (pss_one (ps_if (pt_cmpR op_eq (pe_cmpR op_gt (pv 2) pe_int (nomark _)) (pe_cmpR op_eq (pe_dget hu (pv 1) (pe_callB call_abs (by rfl) b_abs (by decide +kernel) (pa_cons (pv 2) pa_nil)) (fun _ _ => rfl)) pe_int (nomark _)) (nomark _))
      (pss_one (ps_ret pe_bl))
      pss_nil)))
      (pss_one (ps_ret pe_bl))), ?_⟩
    have hany : Sm03.holds (Sm03.valAt ns us) xs = xs.any fun x => if x < 0 then !Sm03.valAt ns us x.natAbs else Sm03.valAt ns us x.natAbs := rfl
    refine ⟨_, rfl, c, rfl, ⟨_, .inl (.inl hc)⟩, ?_⟩
    refine for_it (walk_list (K := K) (a := c) (xs := xs.map V.int)) (fun i σ H1 => H1 = H ∧ ∃ v2 : Option V, σ = [some (.ref c), some (.ref d), v2] ∧ ((xs.take i).any fun x => if x < 0 then !Sm03.valAt ns us x.natAbs else Sm03.valAt ns us x.natAbs) = false)
      ⟨rfl, none, rfl, rfl⟩ (fun i σ H1 _ h => by rw [h.1]; exact .inl (.inl hc)) ?_ ?_
    · rintro i v σ H1 H2 hi ⟨rfl, v2, rfl, hA⟩ ⟨rfl, hv⟩
      rw [List.getElem?_map] at hv
      obtain ⟨x, hxi, rfl⟩ := Option.map_eq_some_iff.mp hv
      obtain ⟨x0, x1⟩ := hx x (List.mem_of_getElem? hxi)
      obtain ⟨u, hu⟩ := BS.look_in ns us _ hl x1
      have hk := hT x.natAbs
      rw [hu] at hk
      have key := BS.lit_told hl x0 hu
      have ek : (if x < 0 then -x else x) = ((x.natAbs : Nat) : Int) := by split <;> omega
      refine ⟨_, rfl, _, _, rfl, rfl, _, rfl, _, rfl, _, rfl, d, .int (u : Int), rfl, ?_, rfl, rfl, _, rfl, ?_⟩
      · rw [ek]
        have := DGet.k (k := Sum.inl ((x.natAbs : Nat) : Int)) hd
        rw [hk] at this
        exact this
      have ed : decide (V.bl (decide (0 < x)) = V.bl (decide (V.int (u : Int) = V.int 1))) = (if x < 0 then !Sm03.valAt ns us x.natAbs else Sm03.valAt ns us x.natAbs) := by
        rw [← key, show decide (V.int (u : Int) = V.int 1) = decide (u = 1) from dec_eqN u 1]
        show _ = (decide (0 < x) == decide (u = 1))
        cases decide (0 < x) <;> cases decide (u = 1) <;> rfl
      dsimp only
      rw [ed]
      cases hb : (if x < 0 then !Sm03.valAt ns us x.natAbs else Sm03.valAt ns us x.natAbs) with
      | true =>
        refine if_true_of rfl ?_
        have ht : (xs.any fun x => if x < 0 then !Sm03.valAt ns us x.natAbs else Sm03.valAt ns us x.natAbs) = true := List.any_eq_true.mpr ⟨x, List.mem_of_getElem? hxi, hb⟩
        rw [hany, ht] at q
        exact q
      | false =>
        refine if_false_of rfl ⟨rfl, _, rfl, ?_⟩
        rw [List.take_add_one, hxi, List.any_append, hA, Bool.false_or]
        show ((if x < 0 then !Sm03.valAt ns us x.natAbs else Sm03.valAt ns us x.natAbs) || false) = false
        rw [hb]
        rfl
    rintro σ H1 ⟨rfl, v2, rfl, hA⟩
    rw [List.length_map, List.take_length] at hA
    rw [hany, hA] at q
    exact q
end
end BC

set_option Elab.async false
set_option linter.all false
set_option maxRecDepth 100000
set_option maxHeartbeats 2000000
namespace BC
open PySem PySem.Spec PyProof.Rows L2
/-! ### promises: what is shown -/
def spBitsC (CS CG : Addr) : Sp := fun vs H Q _ => ∃ (A : Ad) (s : Sm03.St) (nn : Addr) (t : Nat), vs = [.ref A.sa, .ref nn] ∧ SAt CS CG A H s ∧ H nn = some (.lst (lits [t])) ∧ Ansd CS CG A H Q (Sm03.step s (.bits t))
def spNode (CS CG : Addr) : Sp := fun vs H Q _ => ∃ (A : Ad) (s : Sm03.St) (nn : Addr) (t : Nat), vs = [.ref A.sa, .ref nn] ∧ SAt CS CG A H s ∧ H nn = some (.lst (lits [t])) ∧ Ansd CS CG A H Q (Sm03.step s (.node t))
def spSizes (CS CG : Addr) : Sp := fun vs H Q _ => ∃ (A : Ad) (s : Sm03.St) (nn : Addr), vs = [.ref A.sa, .ref nn] ∧ SAt CS CG A H s ∧ Ansd CS CG A H Q (Sm03.step s .sizes)
def spClauses (CS CG : Addr) : Sp := fun vs H Q _ => ∃ (A : Ad) (s : Sm03.St) (nn : Addr), vs = [.ref A.sa, .ref nn] ∧ SAt CS CG A H s ∧ Ansd CS CG A H Q (Sm03.step s .clauses)
def spReads (CS CG : Addr) : Sp := fun vs H Q _ => ∃ (A : Ad) (s : Sm03.St) (nn : Addr) (l : List Nat), vs = [.ref A.sa, .ref nn] ∧ SAt CS CG A H s ∧ H nn = some (.lst (lits l)) ∧ l.length ≤ 1210 ∧ Ansd CS CG A H Q (Sm03.step s (.reads l))
def spVRead : Sp := fun vs H Q _ => ∃ (p d : Addr) (word : List Nat) (kvs : List (Key × V)) (ns us : List Nat), vs = [.ref p, .ref d] ∧ H p = some (.lst (lits word)) ∧ word.length ≤ 100 ∧ H d = some (.dK kvs) ∧ ToldAt kvs ns us ∧ ns.length = us.length ∧ (∀ u ∈ us, u ≤ 1) ∧
  ∀ H', Same H H' → Q (.int ((Sm03.numberOf (Sm03.valAt ns us) word : Nat) : Int)) H'
/-- one of the five calls from 17 on -/
def spShow (CS CG : Addr) (c : Nat) : Sp := fun vs H Q _ => ∃ (A : Ad) (s : Sm03.St) (nn : Addr) (nums row : List Nat) (x : Sm03.Call), vs = [.ref A.sa, .ref nn] ∧ SAt CS CG A H s ∧ H nn = some (.lst (lits (nums ++ row))) ∧ (c < 4 → row = []) ∧ row.length ≤ 1210 ∧ BS.callNat (17 + c) nums row = some x ∧ Ansd CS CG A H Q (Sm03.step s x)
def spShowing (CS CG : Addr) : Sp := fun vs H Q _ => ∃ (A : Ad) (s : Sm03.St) (c : Nat) (nn : Addr) (nums row : List Nat) (x : Sm03.Call), vs = [.ref A.sa, .int c, .ref nn] ∧ SAt CS CG A H s ∧ c < 5 ∧ H nn = some (.lst (lits (nums ++ row))) ∧ (c < 4 → row = []) ∧ row.length ≤ 1210 ∧ BS.callNat (17 + c) nums row = some x ∧ Ansd CS CG A H Q (Sm03.step s x)
theorem show0 {CS CG : Addr} (vs : List V) (H : Hp) (Q : VK) (E : XK) (h : spShow CS CG 0 vs H Q E) : spBitsC CS CG vs H Q E := by
  obtain ⟨A, s, nn, nums, row, x, e, hS, hn, hr, _, hx, q⟩ := h
  have hr := hr (by decide)
  subst hr
  rw [List.append_nil] at hn
  match nums, hx with
  | [t], hx => injection hx with hx; subst hx; exact ⟨A, s, nn, t, e, hS, hn, q⟩
theorem show1 {CS CG : Addr} (vs : List V) (H : Hp) (Q : VK) (E : XK) (h : spShow CS CG 1 vs H Q E) : spNode CS CG vs H Q E := by
  obtain ⟨A, s, nn, nums, row, x, e, hS, hn, hr, _, hx, q⟩ := h
  have hr := hr (by decide)
  subst hr
  rw [List.append_nil] at hn
  match nums, hx with
  | [t], hx => injection hx with hx; subst hx; exact ⟨A, s, nn, t, e, hS, hn, q⟩
theorem show2 {CS CG : Addr} (vs : List V) (H : Hp) (Q : VK) (E : XK) (h : spShow CS CG 2 vs H Q E) : spSizes CS CG vs H Q E := by
  obtain ⟨A, s, nn, nums, row, x, e, hS, hn, hr, _, hx, q⟩ := h
  match nums, hx with
  | [], hx => injection hx with hx; subst hx; exact ⟨A, s, nn, e, hS, q⟩
theorem show3 {CS CG : Addr} (vs : List V) (H : Hp) (Q : VK) (E : XK) (h : spShow CS CG 3 vs H Q E) : spClauses CS CG vs H Q E := by
  obtain ⟨A, s, nn, nums, row, x, e, hS, hn, hr, _, hx, q⟩ := h
  match nums, hx with
  | [], hx => injection hx with hx; subst hx; exact ⟨A, s, nn, e, hS, q⟩
theorem show4 {CS CG : Addr} (vs : List V) (H : Hp) (Q : VK) (E : XK) (h : spShow CS CG 4 vs H Q E) : spReads CS CG vs H Q E := by
  obtain ⟨A, s, nn, nums, row, x, e, hS, hn, hr, hl, hx, q⟩ := h
  match nums, hx with
  | [], hx => injection hx with hx; subst hx; exact ⟨A, s, nn, row, e, hS, hn, hl, q⟩
theorem Cla.some {H : Hp} {rs : List Addr} {cs : List (List Int)} (h : Cla H rs cs) {r : Addr} (hr : r ∈ rs) : ∃ c : List Int, H r = some (.lst (c.map V.int)) := by
  induction h with
  | nil => cases hr
  | cons hh _ ih =>
    rcases List.mem_cons.mp hr with e | hr
    · subst e; exact ⟨_, hh⟩
    · exact ih hr
theorem flat_lenM {α β : Type} {f : α → List β} {c : Nat} : ∀ (l : List α), (∀ x ∈ l, (f x).length ≤ c) → (l.flatMap f).length ≤ c * l.length
  | [], _ => Nat.zero_le _
  | x :: r, h => by
    rw [List.flatMap_cons, List.length_append, List.length_cons, Nat.mul_succ]
    have := h x (List.mem_cons_self ..)
    have := flat_lenM r fun y hy => h y (List.mem_cons_of_mem _ hy)
    omega
/-! ### the dict of what is told -/
def kz (ns vs : List Nat) : List (Key × V) := (ns.zip vs).map fun x => (Sum.inl (x.1 : Int), V.int (x.2 : Int))
theorem kz_keys : ∀ {ns vs : List Nat}, ns.length = vs.length → (kz ns vs).map (fun kv => kV kv.1) = lits ns
  | [], [], _ => rfl
  | [], _ :: _, h => by cases h
  | _ :: _, [], h => by cases h
  | n :: ns, v :: vs, h => by
    show kV (Sum.inl (n : Int)) :: (kz ns vs).map (fun kv => kV kv.1) = V.int (n : Int) :: lits ns
    rw [kz_keys (Nat.succ.inj h)]
    rfl
theorem kz_vals : ∀ {ns vs : List Nat}, ns.length = vs.length → (kz ns vs).map (fun kv => kv.2) = lits vs
  | [], [], _ => rfl
  | [], _ :: _, h => by cases h
  | _ :: _, [], h => by cases h
  | n :: ns, v :: vs, h => by
    show V.int (v : Int) :: (kz ns vs).map (fun kv => kv.2) = V.int (v : Int) :: lits vs
    rw [kz_vals (Nat.succ.inj h)]
theorem look_key : ∀ {ns vs : List Nat} {m v : Nat}, BS.look ns vs m = some v → m ∈ ns
  | [], _, m, v, h => by unfold BS.look at h; cases h
  | _ :: _, [], m, v, h => by unfold BS.look at h; cases h
  | n :: ns, x :: vs, m, v, h => by
    unfold BS.look at h
    by_cases e : n = m
    · subst e; exact List.mem_cons_self ..
    · rw [if_neg e] at h; exact List.mem_cons_of_mem _ (look_key h)
theorem merge_look (m : Nat) : ∀ (ns vs : List Nat) (acc : List (Key × V)), ns.Nodup → ns.length = vs.length →
    valV (mergeK acc (kz ns vs)) (Sum.inl (m : Int)) = match BS.look ns vs m with | some v => some (V.int (v : Int)) | none => valV acc (Sum.inl (m : Int))
  | [], [], acc, _, _ => rfl
  | [], _ :: _, acc, _, h => by cases h
  | _ :: _, [], acc, _, h => by cases h
  | n :: ns, v :: vs, acc, nd, h => by
    have ih := merge_look m ns vs (putK acc (Sum.inl (n : Int)) (V.int (v : Int))) (List.nodup_cons.mp nd).2 (Nat.succ.inj h)
    show valV (mergeK (putK acc (Sum.inl (n : Int)) (V.int (v : Int))) (kz ns vs)) (Sum.inl (m : Int)) = match (if n = m then some v else BS.look ns vs m) with | some v => some (V.int (v : Int)) | none => valV acc (Sum.inl (m : Int))
    rw [ih, valV_put]
    by_cases e : n = m
    · subst e
      rw [if_pos rfl, if_pos rfl]
      cases q : BS.look ns vs n with
      | none => rfl
      | some u => exact ((List.nodup_cons.mp nd).1 (look_key q)).elim
    · rw [if_neg e, if_neg (fun z => e (by injection z with z; omega))]
theorem told_at {ns vs : List Nat} (nd : ns.Nodup) (h : ns.length = vs.length) : ToldAt (mergeK [] (kz ns vs)) ns vs := fun m => by
  rw [merge_look m ns vs [] nd h]
  cases BS.look ns vs m <;> rfl
theorem cone_nodup (g : Graph) (es : List Entry) (cl : List Nat) : (Sm03.cone g es cl).Nodup := (BS.cone_sorted g.length _).imp fun h => Nat.ne_of_lt h
end BC

set_option Elab.async false
set_option linter.all false
set_option maxRecDepth 100000
set_option maxHeartbeats 2000000
namespace BC
open PySem PySem.Spec PyProof.Rows L2
section
variable {P : Program} {w : World} {K : PySem.W.Frag} {mg : Str → Option Value} {base : Heap} {CG CS CW : Addr} {f : Addr} {fd : FuncData}
abbrev s_answer_of_bits : Stmt := top 92
abbrev N_answer_of_bits : List Str := ["state", "numbers", "word"]
theorem sc_answer_of_bits : FnScope N_answer_of_bits ["state", "numbers"] (defScope s_answer_of_bits) := ⟨rfl, rfl, rfl, by decide +kernel, rfl, by decide +kernel, by decide +kernel⟩
theorem ok_answer_of_bits (F : Fun K "answer_of_bits" "answer_of_bits" s_answer_of_bits f fd) (D_has : DM P w K mg base CS 1 "has" (spHas CS CG)) (g_NO_TERM : GI mg "NO_TERM" (-2)) (T_State : TState K CS) (b_len : mg "len" = none) : FnOk P w K mg base CX0 2 f fd ["state", "numbers"] (spBitsC CS CG) := by
  refine F.ok sc_answer_of_bits (fun vs H Q E h => ?_) (fun cdv A outer s H vs Q E hr h => ?_)
  · obtain ⟨_, _, _, _, rfl, _⟩ := h
    rfl
  · obtain ⟨A, s, nn, t, rfl, hS, hn, q⟩ := h
    obtain ⟨dx, h1⟩ := hS.ins
    have q : Ansd CS CG A H Q (s, if Sm03.there s.now.terms t = false then [-2] else (Sm03.widthOf s.now.terms t : Int) :: Sm03.ints (Sm03.wordOf s.now.terms t)) := q
    have hu := hu_of hr
    refine ⟨_, (pss_cons (ps_if (pt_not (pt_val (pe_dm (pv 0) D_has hr (pa_cons (pe_ix ix_list (pv 1) pe_int (fun _ _ => rfl)) pa_nil))))
      (pss_one (ps_ret (pe_lst (pa_cons (pe_gi g_NO_TERM) pa_nil))))
      pss_nil)
      (pss_cons (ps_set (i := 2) sc_answer_of_bits.nd rfl (Or.inl rfl) (pe_ix ix_list (pe_fld (pv 0) rfl) (pe_ix ix_list (pv 1) pe_int (fun _ _ => rfl)) (fun _ _ => rfl)))
      (pss_one (ps_ret (pe_op op_cat (pe_lst (pa_cons (pe_callB call_len_seq (by rfl) b_len PySem.boot_len (pa_cons (pv 2) pa_nil)) pa_nil)) (pv 2)))))), ?_⟩
    have hL : (100 : Nat) ≤ LIM := by decide
    refine ⟨_, rfl, A.sa, dx, _, rfl, h1, by rfl, _, rfl, nn, _, _, _, rfl, rfl, .inl (.inl hn), at0 _ _, A, s, t, rfl, hS, _, rfl, ?_⟩
    by_cases c1 : ¬ t < s.now.terms.length
    · refine if_true_of (by rw [decide_eq_false c1]; rfl) ?_
      rw [if_pos (th_f c1)] at q
      exact ⟨(by show 1 ≤ sizeLine; decide), fun p hp => ansd_same q hS (Same.refl H) hp⟩
    replace c1 := Decidable.not_not.mp c1
    refine if_false_of (by rw [decide_eq_true c1]; rfl) ?_
    rw [if_neg (by rw [th_t c1]; exact Bool.noConfusion)] at q
    obtain ⟨rs, r, g3, g4, g5⟩ := hS.word c1
    have w8 := (hS.wf.width c1).2
    refine ⟨_, rfl, A.sa, CS, dx, _, _, rfl, h1, T_State.cl, T_State.nT, sF_terms A, _, rfl, nn, _, _, _, rfl, rfl, .inl (.inl hn), at0 _ _, A.pt, _, _, _, rfl, rfl, .inl (.inl g3), atI_nat g4, ?_⟩
    refine ⟨_, rfl, r, _, rfl, .inl (.inl (.inl g5.1)), (by show 1 ≤ sizeLine; decide), fun c hc => ?_⟩
    refine ⟨_, rfl, c, r, _, _, rfl, rfl, upd_same, by rw [upd_ne (ne_of_none g5.1 hc)]; exact g5.1, ?_, fun d hd => ?_⟩
    · exact Nat.le_of_lt (lim_lt (by show 1 + (lits _).length ≤ _; rw [lits_len]; omega))
    rw [lits_len] at hd ⊢
    have e := ansd_same q hS (same_upd (o := .lst [.int ((Sm03.wordOf s.now.terms t).length : Int)]) hc) hd
    rw [List.map_cons, ints_lits] at e
    exact e

abbrev s_answer_of_node : Stmt := top 93
abbrev N_answer_of_node : List Str := ["state", "numbers", "n", "pair"]
theorem sc_answer_of_node : FnScope N_answer_of_node ["state", "numbers"] (defScope s_answer_of_node) := ⟨rfl, rfl, rfl, by decide +kernel, rfl, by decide +kernel, by decide +kernel⟩
theorem ok_answer_of_node (F : Fun K "answer_of_node" "answer_of_node" s_answer_of_node f fd) (T_State : TState K CS) (D_size : DM P w K mg base CG 1 "size" (spSize CG)) (g_NO_NODE : GI mg "NO_NODE" (-3)) (D_pair : DM P w K mg base CG 1 "pair" (spPair CG)) : FnOk P w K mg base CX0 2 f fd ["state", "numbers"] (spNode CS CG) := by
  refine F.ok sc_answer_of_node (fun vs H Q E h => ?_) (fun cdv A outer s H vs Q E hr h => ?_)
  · obtain ⟨_, _, _, _, rfl, _⟩ := h
    rfl
  · obtain ⟨A, s, nn, n, rfl, hS, hn, q⟩ := h
    obtain ⟨dx, h1⟩ := hS.ins
    obtain ⟨dg, hg⟩ := hS.gat.ins
    have q : Ansd CS CG A H Q (s, if n = 0 then [-3] else match s.now.graph[n - 1]? with
        | none => [-3]
        | some .bit => [0]
        | some (.gate a b) => Sm03.ints [1, a, b]) := q
    have hu := hu_of hr
    refine ⟨_, (pss_cons (ps_set (i := 2) sc_answer_of_node.nd rfl (Or.inl rfl) (pe_ix ix_list (pv 1) pe_int (fun _ _ => rfl)))
      (pss_cons (ps_if (PW.pt (pw_or (pt_cmpR op_lt (pv 2) pe_int (nomark _)) (pw_or1 (pt_cmpR op_gt (pv 2) (pe_dm0 (pe_fld (pv 0) rfl) D_size hr) (nomark _)))))
      (pss_one (ps_ret (pe_lst (pa_cons (pe_gi g_NO_NODE) pa_nil))))
      pss_nil)
      (pss_cons (ps_set (i := 3) sc_answer_of_node.nd rfl (Or.inl rfl) (pe_dm (pe_fld (pv 0) rfl) D_pair hr (pa_cons (pv 2) pa_nil)))
      (pss_cons (ps_if (pt_cmpR op_isN (pv 3) pe_non (nomark _))
      (pss_one (ps_ret (pe_lst (pa_cons pe_int pa_nil))))
      pss_nil)
      (pss_one (ps_ret (pe_lst (pa_cons pe_int (pa_cons (pe_ix ix_tup (pv 3) pe_int (fun _ _ => rfl)) (pa_cons (pe_ix ix_tup (pv 3) pe_int (fun _ _ => rfl)) pa_nil)))))))))), ?_⟩
    refine ⟨_, rfl, nn, _, _, _, rfl, rfl, .inl (.inl hn), at0 _ _, ?_⟩
    refine ⟨_, rfl, _, _, rfl, rfl, _, rfl, ?_⟩
    by_cases c1 : n = 0
    · refine if_true_of (decide_eq_true (by omega)) (if_true_of rfl ?_)
      rw [if_pos c1] at q
      exact ⟨(by show 1 ≤ sizeLine; decide), fun p hp => ansd_same q hS (Same.refl H) hp⟩
    refine if_false_of (decide_eq_false (by omega)) ?_
    rw [if_neg c1] at q
    refine ⟨_, rfl, _, rfl, A.sa, CS, dx, _, _, rfl, h1, T_State.cl, T_State.nG, sF_gates A, A.ga, dg, _, rfl, hg, by rfl, A.ga, A.n, A.k, _, rfl, hS.gat, _, _, rfl, rfl, _, rfl, ?_⟩
    by_cases c2 : s.now.graph.length < n
    · refine if_true_of (decide_eq_true (by omega)) ?_
      rw [show s.now.graph[n - 1]? = none from List.getElem?_eq_none (by omega)] at q
      exact ⟨(by show 1 ≤ sizeLine; decide), fun p hp => ansd_same q hS (Same.refl H) hp⟩
    refine if_false_of (decide_eq_false (by omega)) ?_
    refine ⟨_, rfl, A.sa, CS, dx, _, _, rfl, h1, T_State.cl, T_State.nG, sF_gates A, A.ga, dg, _, rfl, hg, by rfl, _, rfl, A.ga, A.n, A.k, _, n, rfl, hS.gat, by omega, by omega, fun pv hpv => ?_⟩
    refine ⟨_, rfl, rfl, _, rfl, ?_⟩
    rcases hpv with ⟨hb, rfl⟩ | ⟨qa, a, b, hb, rfl, hq⟩
    · rw [hb] at q
      exact if_true_of (decide_eq_true rfl) ⟨(by show 1 ≤ sizeLine; decide), fun p hp => ansd_same q hS (Same.refl H) hp⟩
    · rw [hb] at q
      have hq' : H qa = some (.tup (lits [a, b])) := hq
      refine if_false_of (decide_eq_false (by intro z; cases z)) ?_
      refine ⟨_, rfl, qa, _, _, _, rfl, rfl, .inl (.inl hq'), at0 _ _, _, rfl, qa, _, _, _, rfl, rfl, .inl (.inl hq'), at1 _ _ _, (by show 3 ≤ sizeLine; decide), fun p hp => ?_⟩
      exact ansd_same q hS (Same.refl H) hp

abbrev s_answer_of_sizes : Stmt := top 94
abbrev N_answer_of_sizes : List Str := ["state", "numbers", "size"]
theorem sc_answer_of_sizes : FnScope N_answer_of_sizes ["state", "numbers"] (defScope s_answer_of_sizes) := ⟨rfl, rfl, rfl, by decide +kernel, rfl, by decide +kernel, by decide +kernel⟩
theorem ok_answer_of_sizes (F : Fun K "answer_of_sizes" "answer_of_sizes" s_answer_of_sizes f fd) (T_State : TState K CS) (D_size : DM P w K mg base CG 1 "size" (spSize CG)) (b_len : mg "len" = none) (D_all_clauses : DF P w K mg base 3 "all_clauses" (spAllC CS CG)) (D_needed_nodes : DF P w K mg base 2 "needed_nodes" (spNeed CS CG)) (D_bits_of_inputs : DM P w K mg base CS 2 "bits_of_inputs" (spBits CS CG)) : FnOk P w K mg base CX0 4 f fd ["state", "numbers"] (spSizes CS CG) := by
  refine F.ok sc_answer_of_sizes (fun vs H Q E h => ?_) (fun cdv A outer s H vs Q E hr h => ?_)
  · obtain ⟨_, _, _, rfl, _⟩ := h
    rfl
  · obtain ⟨A, s, nn, rfl, hS, q⟩ := h
    obtain ⟨dx, h1⟩ := hS.ins
    obtain ⟨dg, hg⟩ := hS.gat.ins
    have q : Ansd CS CG A H Q (s, Sm03.ints [s.now.graph.length, (s.now.graph.filter fun n => n != Sm03.Node.bit).length, (Sm03.cone s.now.graph s.now.terms s.now.claims).length, (Sm03.clauses s.now.graph s.now.terms s.now.claims).length]) := q
    have hu := hu_of hr
    refine ⟨_, (pss_cons (ps_set (i := 2) sc_answer_of_sizes.nd rfl (Or.inl rfl) (pe_dm0 (pe_fld (pv 0) rfl) D_size (hr.mono (by decide))))
      (pss_one (ps_ret (pe_lst (pa_cons (pv 2) (pa_cons (pe_op op_sub (pv 2) (pe_dm0 (pv 0) D_bits_of_inputs (hr.mono (by decide)))) (pa_cons (pe_callB call_len_seq (by rfl) b_len PySem.boot_len (pa_cons (pe_df D_needed_nodes (hr.mono (by decide)) (pa_cons (pv 0) pa_nil)) pa_nil)) (pa_cons (pe_callB call_len_seq (by rfl) b_len PySem.boot_len (pa_cons (pe_df D_all_clauses hr (pa_cons (pv 0) pa_nil)) pa_nil)) pa_nil)))))))), ?_⟩
    have hW := hS.wf
    refine ⟨_, rfl, A.sa, CS, dx, _, _, rfl, h1, T_State.cl, T_State.nG, sF_gates A, A.ga, dg, _, rfl, hg, by rfl, A.ga, A.n, A.k, _, rfl, hS.gat, ?_⟩
    refine ⟨_, rfl, _, rfl, _, rfl, A.sa, dx, _, rfl, h1, by rfl, A, s, rfl, hS, fun H1 s1 => ⟨_, _, rfl, rfl, ?_⟩⟩
    have hS1 := hS.same s1
    refine ⟨_, rfl, A, s, rfl, hS1, fun np H2 s2 hnp e2 => ⟨np, _, rfl, .inl (.inl (.inl e2)), ?_⟩⟩
    have hS2 := hS1.same s2
    refine ⟨_, rfl, A, s, rfl, hS2, fun cp H3 rs s3 hcp e3 hC hR => ⟨cp, _, rfl, .inl (.inl (.inl e3)), (by show 4 ≤ sizeLine; decide), fun p hp => ?_⟩⟩
    have gc := BS.gates_count hW.gd hW.iw
    rw [← total_sum] at gc
    dsimp only
    rw [lits_len, List.length_map, hC.len, show ((s.now.graph.length : Int) - (Sm03.total (Sm03.inputs s.now.terms) : Nat)) = (((s.now.graph.filter fun n => n != Sm03.Node.bit).length : Nat) : Int) by omega]
    exact ansd_same q hS ((s1.trans s2).trans s3) hp

abbrev s_answer_of_clauses : Stmt := top 95
abbrev N_answer_of_clauses : List Str := ["state", "numbers", "found", "answer", "clause"]
theorem sc_answer_of_clauses : FnScope N_answer_of_clauses ["state", "numbers"] (defScope s_answer_of_clauses) := ⟨rfl, rfl, rfl, by decide +kernel, rfl, by decide +kernel, by decide +kernel⟩
theorem ok_answer_of_clauses (F : Fun K "answer_of_clauses" "answer_of_clauses" s_answer_of_clauses f fd) (D_all_clauses : DF P w K mg base 3 "all_clauses" (spAllC CS CG)) (b_len : mg "len" = none) : FnOk P w K mg base CX0 4 f fd ["state", "numbers"] (spClauses CS CG) := by
  refine F.ok sc_answer_of_clauses (fun vs H Q E h => ?_) (fun cdv A outer s H vs Q E hr h => ?_)
  · obtain ⟨_, _, _, rfl, _⟩ := h
    rfl
  · obtain ⟨A, s, nn, rfl, hS, q⟩ := h
    have q : Ansd CS CG A H Q (s, ((Sm03.clauses s.now.graph s.now.terms s.now.claims).length : Int) :: (Sm03.clauses s.now.graph s.now.terms s.now.claims).flatMap fun c => (c.length : Int) :: c) := q
    have hu := hu_of hr
    refine ⟨_, (pss_cons (ps_set (i := 2) sc_answer_of_clauses.nd rfl (Or.inl rfl) (pe_df D_all_clauses hr (pa_cons (pv 0) pa_nil)))
      (pss_cons (ps_set (i := 3) sc_answer_of_clauses.nd rfl (Or.inl rfl) (pe_lst (pa_cons (pe_callB call_len_seq (by rfl) b_len PySem.boot_len (pa_cons (pv 2) pa_nil)) pa_nil)))
      (pss_cons (ps_for PassesOwn.never rfl (pi_list (pv 2)) (pg_name (i := 4) sc_answer_of_clauses.nd rfl (Or.inl rfl))
      (pss_cons (ps_expr (pe_bm PySem.F.plainAttrs_list PySem.F.slot_list_append PySem.F.type_list_append mt_append (pv 3) (pa_cons (pe_callB call_len_seq (by rfl) b_len PySem.boot_len (pa_cons (pv 4) pa_nil)) pa_nil)))
      (pss_one (ps_expr (pe_bm PySem.F.plainAttrs_list PySem.F.slot_list_extend PySem.F.type_list_extend mt_extend (pv 3) (pa_cons (pv 4) pa_nil))))))
      (pss_one (ps_ret (pv 3)))))), ?_⟩
    have hW := hS.wf
    have gl := hW.gl
    have cl := hW.cl
    have hL : (20000 : Nat) ≤ LIM := by decide
    have hL2 := lim_lt (Nat.le_refl LIM)
    refine ⟨_, rfl, A, s, rfl, hS, fun fo H1 rs s1 hfo e1 hC hR => ?_⟩
    have ccl := BS.clauses_len (g := s.now.graph) (es := s.now.terms) (claims := s.now.claims)
    have few := BS.clause_few (g := s.now.graph) (es := s.now.terms) (claims := s.now.claims)
    have rl := hC.len
    refine ⟨_, rfl, fo, _, rfl, .inl (.inl (.inl e1)), (by show 1 ≤ sizeLine; decide), fun an han => ?_⟩
    rw [List.length_map, rl]
    have rn : ∀ r ∈ rs, r ≠ an := fun r hr => by
      obtain ⟨c, hc⟩ := hC.some hr
      exact ne_of_none hc han
    have fn : fo ≠ an := ne_of_none e1 han
    generalize Sm03.clauses s.now.graph s.now.terms s.now.claims = C at q hC ccl few rl ⊢
    refine ⟨_, rfl, fo, rfl, ⟨_, .inl (.inl (by rw [upd_ne fn]; exact e1))⟩, ?_⟩
    refine for_it (walk_list (K := K) (a := fo) (xs := rs.map V.ref))
      (fun i σ H2 => Same H H2 ∧ H2 fo = some (.lst (rs.map V.ref)) ∧ Cla H2 rs C ∧ ∃ v4 : Option V, σ = [some (.ref A.sa), some (.ref nn), some (.ref fo), some (.ref an), v4] ∧ H2 an = some (.lst (((C.length : Int) :: (C.take i).flatMap fun c => (c.length : Int) :: c).map V.int)))
      ⟨s1.trans (same_upd han), by rw [upd_ne fn]; exact e1, hC.same (same_upd han), none, rfl, upd_same⟩ (fun i σ H2 _ h => .inl (.inl h.2.1)) ?_ ?_
    · rintro i v σ H2 H3 hi ⟨s2, f2, hC2, v4, rfl, a2⟩ ⟨rfl, hv⟩
      obtain ⟨r, c, rfl, hc, hr⟩ := hC2.at hv
      have rm : r ∈ rs := by
        rw [List.getElem?_map] at hv
        obtain ⟨r', h1', h2'⟩ := Option.map_eq_some_iff.mp hv
        injection h2' with h2'
        rw [← h2']
        exact List.mem_of_getElem? h1'
      have c3 := few c (List.mem_of_getElem? hc)
      have fl := flat_lenM (f := fun c : List Int => (c.length : Int) :: c) (c := 4) (C.take i) fun x hx => by
        have := few x (List.mem_of_mem_take hx)
        rw [List.length_cons]
        omega
      rw [List.length_take] at fl
      have fr : H an = none := s1.free han
      refine ⟨_, rfl, .inl ⟨rfl, _, .inl (.inl a2)⟩, _, rfl, r, _, rfl, .inl (.inl (.inl hr)), an, _, _, rfl, rfl, a2, ?_, ?_⟩
      · rw [List.length_map, List.length_cons]
        omega
      have hr' : ∀ o, (upd H3 an o) r = some (.lst (c.map V.int)) := fun o => by rw [upd_ne (rn r rm)]; exact hr
      refine ⟨_, rfl, .inl ⟨rfl, _, .inl (.inl upd_same)⟩, _, rfl, an, r, _, _, rfl, rfl, upd_same, hr' _, ?_, ?_⟩
      · rw [List.length_append, List.length_map, List.length_map, List.length_cons]
        show _ + 1 + 1 + c.length ≤ _
        omega
      rw [upd_upd]
      refine ⟨same_updN s2 fr, by rw [upd_ne fn]; exact f2, hC2.mono fun r hr xs e => by rw [upd_ne (rn r hr)]; exact e, _, rfl, ?_⟩
      rw [upd_same, flat_snoc hc, List.length_map, ← List.cons_append, List.map_append]
      rw [List.append_assoc]
      rfl
    rintro σ H2 ⟨s2, f2, hC2, v4, rfl, a2⟩
    rw [List.length_map, rl, List.take_length] at a2
    obtain ⟨rs0, h20, _⟩ := hS.terms
    exact ⟨_, rfl, q an H2 (hS.same s2) (KpS.same s2) (WKp.same h20 s2) (s1.free han) a2⟩

abbrev s_value_read : Stmt := top 96
abbrev N_value_read : List Str := ["word", "told", "i", "literal"]
theorem sc_value_read : FnScope N_value_read ["word", "told"] (defScope s_value_read) := ⟨rfl, rfl, rfl, by decide +kernel, rfl, by decide +kernel, by decide +kernel⟩
theorem ok_value_read (F : Fun K "value_read" "value_read" s_value_read f fd) (b_sum : mg "sum" = none) (b_enumerate : mg "enumerate" = none) : FnOk P w K mg base CX0 1 f fd ["word", "told"] (spVRead) := by
  refine F.ok sc_value_read (fun vs H Q E h => ?_) (fun cdv A outer s H vs Q E hr h => ?_)
  · obtain ⟨_, _, _, _, _, _, rfl, _⟩ := h
    rfl
  · obtain ⟨p, d, word, kvs, ns, us, rfl, hp, hl, hd, hT, hlen, hu1, q⟩ := h
    have hu := hu_of hr
    refine ⟨_, (pss_one (ps_ret (pe_callB (cr_sum rfl) (by rfl) b_sum (by decide +kernel) (pa_cons (pe_lc (own := [("i", 2), ("literal", 3)]) (g := gTup K 2 (gCons (gName 2) (gCons (gName 3) gNil))) (tt := tYes) rfl sc_value_read.nd (pi_enum (by rfl) b_enumerate (pa_cons (pv 0) pa_nil)) (blkOk_by (N := N_value_read) (sc := defScope s_value_read) (by decide +kernel)) (fun _ _ _ _ _ => (pg_tup rfl (pgs_cons (pg_name (i := 2) sc_value_read.nd rfl (Or.inl rfl)) (pgs_cons (pg_name (i := 3) sc_value_read.nd rfl (Or.inl rfl)) pgs_nil)))) (fun _ _ _ _ _ => pts_nil) (fun _ _ _ _ _ => (pe_op op_shl (pe_dget2 hu (pv 1) (pe_op op_fdiv (pv 3) pe_int) pe_int ⟨by rfl, by rfl, by rfl, by rfl⟩) (pv 2)))) pa_nil)))), ?_⟩
    have hL : (2000 : Nat) ≤ LIM := by decide
    refine ⟨_, rfl, p, _, rfl, .inl (.inl hp), fun D hD => ?_⟩
    refine lc_map (walk_enum (K := K) (a := p) (xs := lits word)) (lits (((word.map fun l => Sm03.valAt ns us (l / 2)).zipIdx 0).map fun x => x.1.toNat * 2 ^ x.2)) (by rw [lits_len, lits_len, List.length_map, List.length_zipIdx, List.length_map]) (by rw [lits_len]; omega) hD (fun H1 s1 => .inl (.inl (s1 _ _ hp))) ?_ ?_
    · rintro i v H1 H2 y hi s1 ⟨T, x', y', rfl, hT', rfl, hx', hy'⟩ hy R N r
      obtain ⟨x, hx, rfl⟩ := lits_at hy'
      injection hx' with hx'
      subst hx'
      obtain ⟨z, hz, rfl⟩ := lits_at hy
      rw [List.getElem?_map, List.getElem?_zipIdx, List.getElem?_map, hx] at hz
      have hz : some ((Sm03.valAt ns us (x / 2)).toNat * 2 ^ (0 + i)) = some z := hz
      injection hz with hz
      rw [Nat.zero_add] at hz
      subst hz
      have s2 := s1.trans (same_upd (o := .tup [.int i, .int x]) hT')
      have hd2 := s2 _ _ hd
      have hk := hT (x / 2)
      have hv : Sm03.valAt ns us (x / 2) = ((BS.look ns us (x / 2)).getD 0 == 1) := BS.look_valAt ns us _ hlen
      have hle : (BS.look ns us (x / 2)).getD 0 ≤ 1 := by
        cases e : BS.look ns us (x / 2) with
        | none => exact Nat.zero_le _
        | some u => exact hu1 u (BS.look_mem ns us _ u e)
      have hbit : (Sm03.valAt ns us (x / 2)).toNat = (BS.look ns us (x / 2)).getD 0 := by
        rw [hv]
        have h01 : (BS.look ns us (x / 2)).getD 0 = 0 ∨ (BS.look ns us (x / 2)).getD 0 = 1 := by omega
        rcases h01 with e | e <;> rw [e] <;> rfl
      have hg := DGet.k (k := Sum.inl ((x / 2 : Nat) : Int)) hd2
      rw [hk] at hg
      have hgd : ((BS.look ns us (x / 2)).map fun v => V.int (v : Int)).getD (V.int 0) = V.int (((BS.look ns us (x / 2)).getD 0 : Nat) : Int) := by cases BS.look ns us (x / 2) <;> rfl
      refine ⟨T, [.int i, .int x], rfl, .inl (.inl upd_same), rfl, _, _, rfl, _, _, rfl, rfl, rfl, yes_of (if_true_of rfl ?_)⟩
      refine ⟨_, rfl, d, rfl, .inl ⟨_, .inl hd2⟩, _, rfl, _, _, rfl, rfl, ⟨by decide, by decide⟩, (BS.look ns us (x / 2)).map (fun v => V.int (v : Int)), ?_, _, rfl, (((BS.look ns us (x / 2)).getD 0 : Nat) : Int), _, hgd, rfl, ⟨by omega, ?_, by omega⟩, ?_⟩
      · dsimp only
        rw [show (x : Int) / 2 = ((x / 2 : Nat) : Int) by omega]
        exact hg
      · rw [lits_len] at hi
        omega
      · dsimp only
        rw [shlN, ← hbit]
        exact r _ (same_upd hT')
    · intro H1 s1 e1
      refine ⟨D, (((word.map fun l => Sm03.valAt ns us (l / 2)).zipIdx 0).map fun x => x.1.toNat * 2 ^ x.2).map (fun (x : Nat) => (x : Int)), rfl, .inl (.inl ?_), ?_⟩
      · rw [List.map_map]; exact e1
      · rw [sum_cast, BS.bn_sum, Nat.pow_zero, Nat.one_mul, ← BS.num_bn]
        exact q H1 s1
end
end BC

set_option Elab.async false
set_option linter.all false
set_option maxRecDepth 100000
set_option maxHeartbeats 2000000
namespace BC
open PySem PySem.Spec PyProof.Rows L2
section
variable {P : Program} {w : World} {K : PySem.W.Frag} {mg : Str → Option Value} {base : Heap} {CG CS CW : Addr} {f : Addr} {fd : FuncData}
abbrev s_answer_of_reads : Stmt := top 97
abbrev N_answer_of_reads : List Str := ["state", "numbers", "needed", "told", "place", "clause", "bit", "name"]
theorem sc_answer_of_reads : FnScope N_answer_of_reads ["state", "numbers"] (defScope s_answer_of_reads) := ⟨rfl, rfl, rfl, by decide +kernel, rfl, by decide +kernel, by decide +kernel⟩
theorem ok_answer_of_reads (F : Fun K "answer_of_reads" "answer_of_reads" s_answer_of_reads f fd) (D_needed_nodes : DF P w K mg base 2 "needed_nodes" (spNeed CS CG)) (b_any : mg "any" = none) (b_len : mg "len" = none) (g_UNFIT : GI mg "UNFIT" (-1)) (b_dict : mg "dict" = none) (b_zip : mg "zip" = none) (b_enumerate : mg "enumerate" = none) (D_all_clauses : DF P w K mg base 3 "all_clauses" (spAllC CS CG)) (D_holds : DF P w K mg base 1 "holds" (spHolds)) (T_State : TState K CS) (D_value_read : DF P w K mg base 1 "value_read" (spVRead)) : FnOk P w K mg base CX0 4 f fd ["state", "numbers"] (spReads CS CG) := by
  refine F.ok sc_answer_of_reads (fun vs H Q E h => ?_) (fun cdv A outer s H vs Q E hr h => ?_)
  · obtain ⟨_, _, _, _, rfl, _⟩ := h
    rfl
  · obtain ⟨A, s, nn, l, rfl, hS, hn, hl, q⟩ := h
    have q : Ansd CS CG A H Q (s, if l.length ≠ (Sm03.cone s.now.graph s.now.terms s.now.claims).length ∨ l.any (fun x => decide (1 < x)) = true then [-1] else match (Sm03.clauses s.now.graph s.now.terms s.now.claims).findIdx? fun c => !Sm03.holds (Sm03.valAt (Sm03.cone s.now.graph s.now.terms s.now.claims) l) c with
        | some i => [0, (i : Int)]
        | none => 1 :: ((Sm03.back s.now.terms (Sm03.valAt (Sm03.cone s.now.graph s.now.terms s.now.claims) l)).length : Int) :: Sm03.ints (Sm03.back s.now.terms (Sm03.valAt (Sm03.cone s.now.graph s.now.terms s.now.claims) l))) := q
    have hu := hu_of hr
    refine ⟨_, (pss_cons (ps_set (i := 2) sc_answer_of_reads.nd rfl (Or.inl rfl) (pe_df D_needed_nodes (hr.mono (by decide)) (pa_cons (pv 0) pa_nil)))
      (pss_cons (ps_if (PW.pt (pw_or (pt_cmpR op_ne (pe_callB call_len_seq (by rfl) b_len PySem.boot_len (pa_cons (pv 1) pa_nil)) (pe_callB call_len_seq (by rfl) b_len PySem.boot_len (pa_cons (pv 2) pa_nil)) (nomark _)) (pw_or1 (pt_val (pe_callB (cr_any rfl) (by rfl) b_any (by decide +kernel) (pa_cons (pe_lc (own := [("bit", 6)]) (g := gName 6) (tt := tYes) rfl sc_answer_of_reads.nd (pi_list (pv 1)) (blkOk_by (N := N_answer_of_reads) (sc := defScope s_answer_of_reads) (by decide +kernel)) (fun _ _ _ _ _ => (pg_name (i := 6) sc_answer_of_reads.nd rfl (Or.inl rfl))) (fun _ _ _ _ _ => pts_nil) (fun _ _ _ _ _ => (pe_cmpR op_gt (pv 6) pe_int (nomark _)))) pa_nil))))))
      (pss_one (ps_ret (pe_lst (pa_cons (pe_gi g_UNFIT) pa_nil))))
      pss_nil)
      (pss_cons (ps_set (i := 3) sc_answer_of_reads.nd rfl (Or.inr rfl) (pe_dictZip (by rfl) b_dict (by rfl) b_zip (pa_cons (pv 2) (pa_cons (pv 1) pa_nil))))
      (pss_cons (ps_for PassesOwn.never rfl (pi_enum (by rfl) b_enumerate (pa_cons (pe_df D_all_clauses hr (pa_cons (pv 0) pa_nil)) pa_nil)) (pg_tup rfl (pgs_cons (pg_name (i := 4) sc_answer_of_reads.nd rfl (Or.inl rfl)) (pgs_cons (pg_name (i := 5) sc_answer_of_reads.nd rfl (Or.inl rfl)) pgs_nil)))
      (pss_one (ps_if (pt_not (pt_val (pe_df D_holds (hr.mono (by decide)) (pa_cons (pv 5) (pa_cons (pv 3) pa_nil)))))
      (pss_one (ps_ret (pe_lst (pa_cons pe_int (pa_cons (pv 4) pa_nil)))))
      pss_nil)))
      (pss_one (ps_ret (pe_op op_cat (pe_lst (pa_cons pe_int (pa_cons (pe_callB call_len_seq (by rfl) b_len PySem.boot_len (pa_cons (pe_fld (pv 0) rfl) pa_nil)) pa_nil))) (pe_lc (own := [("name", 7)]) (g := gName 7) (tt := tYes) (te := tCall spVRead [] E0 (tCons (tOp (rIxL K) (tFld K (tVar 0) "terms") (tVar 7)) (tCons (tVar 3) tNil))) rfl sc_answer_of_reads.nd (pi_list (pe_fld (pv 0) rfl)) (blkOk_by (N := N_answer_of_reads) (sc := defScope s_answer_of_reads) (by decide +kernel)) (fun _ _ _ _ _ => (pg_name (i := 7) sc_answer_of_reads.nd rfl (Or.inl rfl))) (fun _ _ _ _ _ => pts_nil) (fun _ _ _ _ _ => (pe_df D_value_read (hr.mono (by decide)) (pa_cons (pe_ix ix_list (pe_fld (pv 0) rfl) (pv 7) (fun _ _ => rfl)) (pa_cons (pv 3) pa_nil)))))))))))), ?_⟩
    have hW := hS.wf
    have gl := hW.gl
    have hL : (2000 : Nat) ≤ LIM := by decide
    have hL2 := lim_lt (Nat.le_refl LIM)
    refine ⟨_, rfl, A, s, rfl, hS, fun np H1 s1 hnp e1 => ?_⟩
    have hn1 := s1 _ _ hn
    have cin := BS.clause_in (g := s.now.graph) (es := s.now.terms) (claims := s.now.claims) hW.gd.ea fun c hc => BS.lit_last (fun z hz => by have := hW.lits hz; unfold BS.Lit; omega)
    have cnd := cone_nodup s.now.graph s.now.terms s.now.claims
    have hback : (Sm03.back s.now.terms (Sm03.valAt (Sm03.cone s.now.graph s.now.terms s.now.claims) l)) = (inIdx 0 s.now.terms).map fun x => Sm03.numberOf (Sm03.valAt (Sm03.cone s.now.graph s.now.terms s.now.claims) l) (Sm03.wordOf s.now.terms x) := by
      rw [BS.back_eq, ← in_words0, List.map_map]
      rfl
    rw [hback] at q
    have ccl := BS.cone_len (g := s.now.graph) s.now.graph.length ((Sm03.claimed s.now.terms s.now.claims).map fun l => l / 2)
    have ccl' : (Sm03.cone s.now.graph s.now.terms s.now.claims).length ≤ s.now.graph.length := ccl
    generalize Sm03.cone s.now.graph s.now.terms s.now.claims = C at q e1 cin cnd ccl' ⊢
    generalize hWd : Sm03.clauses s.now.graph s.now.terms s.now.claims = W at q cin
    refine ⟨_, rfl, nn, _, rfl, .inl (.inl (.inl hn1)), _, rfl, np, _, rfl, .inl (.inl (.inl e1)), rfl, _, rfl, ?_⟩
    rw [lits_len, lits_len, dec_ne]
    by_cases c1 : ¬ l.length = C.length
    · refine if_true_of (decide_eq_true c1) (if_true_of rfl ?_)
      rw [if_pos (.inl c1)] at q
      exact ⟨(by show 1 ≤ sizeLine; decide), fun p hp => ansd_same q hS s1 hp⟩
    replace c1 := Decidable.not_not.mp c1
    refine if_false_of (decide_eq_false (fun z => z c1)) ?_
    refine ⟨_, rfl, nn, rfl, ⟨_, .inl (.inl hn1)⟩, fun D hD => ?_⟩
    refine lc_map (walk_list (K := K) (a := nn) (xs := lits l)) ((l.map fun x => decide (1 < x)).map V.bl) (by rw [lits_len, List.length_map, List.length_map]) (by rw [lits_len]; omega) hD (fun H2 s2 => .inl (.inl (s2 _ _ hn1))) ?_ ?_
    · rintro i v H2 H3 y hi s2 ⟨rfl, hx'⟩ hy R N r
      obtain ⟨x, hx, rfl⟩ := lits_at hx'
      rw [List.getElem?_map, List.getElem?_map, hx] at hy
      injection hy with hy
      subst hy
      refine ⟨rfl, yes_of (if_true_of rfl ⟨_, rfl, _, _, rfl, rfl, ?_⟩)⟩
      have := r _ (Same.refl _)
      dsimp only at this
      rw [show decide (1 < x) = decide ((1 : Int) < (x : Int)) from decide_eq_decide.mpr (by omega)] at this
      exact this
    intro H4 s4 e4
    refine ⟨D, _, rfl, .inl (.inl e4), _, rfl, ?_⟩
    rw [List.any_map]
    have s14 := s1.trans s4
    have hS4 := hS.same s14
    by_cases c2 : l.any (fun x => decide (1 < x)) = true
    · refine if_true_of c2 ?_
      rw [if_pos (.inr c2)] at q
      exact ⟨(by show 1 ≤ sizeLine; decide), fun p hp => ansd_same q hS s14 hp⟩
    refine if_false_of (by cases e : l.any (fun x => decide (1 < x)) with | true => exact (c2 e).elim | false => exact e) ?_
    rw [if_neg (fun z => z.elim (fun y => y c1) c2)] at q
    have ule : ∀ u ∈ l, u ≤ 1 := fun u hu => Decidable.byContradiction fun z => c2 (List.any_eq_true.mpr ⟨u, hu, decide_eq_true (by omega)⟩)
    refine ⟨_, rfl, _, rfl, np, nn, kz C l, rfl, by rw [kz_keys c1.symm]; exact .inl (.inl (s4 _ _ e1)), by rw [kz_vals c1.symm]; exact .inl (.inl (s4 _ _ hn1)), fun td htd => ?_⟩
    have hT := told_at cnd c1.symm
    generalize mergeK [] (kz C l) = kvs at hT ⊢
    have s5 := s14.trans (same_upd (o := .dK kvs) htd)
    have d5 : (upd H4 td (.dK kvs)) td = some (.dK kvs) := upd_same
    generalize upd H4 td (.dK kvs) = H5 at s5 d5 ⊢
    have hS5 := hS.same s5
    refine ⟨_, rfl, A, s, rfl, hS5, fun fo H6 rs s6 hfo e6 hC6 hR6 => ?_⟩
    rw [hWd] at hC6
    have s06 := s5.trans s6
    refine ⟨fo, _, rfl, .inl (.inl e6), ?_⟩
    refine for_it (walk_enum (K := K) (a := fo) (xs := rs.map V.ref))
      (fun i σ H7 => Same H6 H7 ∧ ∃ (v4 v5 : Option V), σ = [some (.ref A.sa), some (.ref nn), some (.ref np), some (.ref td), v4, v5, none, none] ∧ ∀ j c, j < i → W[j]? = some c → Sm03.holds (Sm03.valAt C l) c = true)
      ⟨Same.refl _, none, none, rfl, fun j c hj => by omega⟩ (fun i σ H7 _ h => .inl (.inl (h.1 _ _ e6))) ?_ ?_
    · rintro i v σ H7 H8 hi ⟨s7, v4, v5, rfl, hH⟩ ⟨U, x', y', rfl, hU, rfl, hx', hy'⟩
      injection hx' with hx'
      subst hx'
      obtain ⟨r, c, rfl, hc, hr⟩ := hC6.at hy'
      have s8 := s7.trans (same_upd (o := .tup [.int i, .ref r]) hU)
      refine ⟨U, [.int i, .ref r], rfl, .inl (.inl upd_same), rfl, _, _, rfl, _, _, rfl, rfl, ?_⟩
      refine ⟨_, rfl, _, rfl, r, td, c, kvs, C, l, rfl, s8 _ _ hr, s8 _ _ (s6 _ _ d5), hT, c1.symm, fun x hx => cin c (List.mem_of_getElem? hc) x hx, _, rfl, ?_⟩
      cases hb : Sm03.holds (Sm03.valAt C l) c with
      | false =>
        refine if_true_of rfl ?_
        have ef : W.findIdx? (fun c => !Sm03.holds (Sm03.valAt C l) c) = some i := by
          obtain ⟨hiW, hcW⟩ := List.getElem?_eq_some_iff.mp hc
          refine List.findIdx?_eq_some_iff_getElem.mpr ⟨hiW, by rw [hcW, hb]; rfl, fun j hj => ?_⟩
          rw [hH j _ hj (List.getElem?_eq_getElem (by omega))]
          exact Bool.false_ne_true
        rw [ef] at q
        exact ⟨_, rfl, (by show 2 ≤ sizeLine; decide), fun p hp => ansd_same q hS (s06.trans s8) hp⟩
      | true =>
        refine if_false_of rfl ⟨s8, _, _, rfl, fun j c' hj hj' => ?_⟩
        by_cases e : j < i
        · exact hH j c' e hj'
        · have : j = i := by omega
          subst this
          rw [hc] at hj'
          injection hj' with hj'
          rw [← hj']
          exact hb
    rintro σ H7 ⟨s7, v4, v5, rfl, hH⟩
    rw [List.length_map, hC6.len] at hH
    have ef : W.findIdx? (fun c => !Sm03.holds (Sm03.valAt C l) c) = none := by
      refine List.findIdx?_eq_none_iff.mpr fun c hc => ?_
      obtain ⟨j, hj⟩ := List.getElem?_of_mem hc
      rw [hH j c (List.getElem?_eq_some_iff.mp hj).1 hj]
      rfl
    rw [ef] at q
    have s07 := s06.trans s7
    have hS7 := hS.same s07
    obtain ⟨dx7, h17⟩ := hS7.ins
    have il : (inIdx 0 s.now.terms).length ≤ 30 := by rw [inIdx_len]; exact inp_few hW
    refine ⟨_, rfl, A.sa, CS, dx7, _, _, rfl, h17, T_State.cl, T_State.nI, sF_inputs A, A.pi, _, rfl, .inl (.inl (.inl hS7.inputs)), (by show 2 ≤ sizeLine; decide), fun cc hcc => ?_⟩
    have sc := same_upd (o := .lst [.int 1, .int ((lits (inIdx 0 s.now.terms)).length : Int)]) hcc
    have s08 := s07.trans sc
    have ecc : (upd H7 cc (.lst [.int 1, .int ((lits (inIdx 0 s.now.terms)).length : Int)])) cc = some (.lst [.int 1, .int ((lits (inIdx 0 s.now.terms)).length : Int)]) := upd_same
    have d8 := sc _ _ (s7 _ _ (s6 _ _ d5))
    generalize upd H7 cc (.lst [.int 1, .int ((lits (inIdx 0 s.now.terms)).length : Int)]) = H8 at s08 ecc d8 ⊢
    have hS8 := hS.same s08
    obtain ⟨dx8, h18⟩ := hS8.ins
    refine ⟨_, rfl, A.sa, CS, dx8, _, _, rfl, h18, T_State.cl, T_State.nI, sF_inputs A, A.pi, rfl, ⟨_, .inl (.inl hS8.inputs)⟩, fun D2 hD2 => ?_⟩
    refine lc_map (walk_list (K := K) (a := A.pi) (xs := lits (inIdx 0 s.now.terms))) (lits ((inIdx 0 s.now.terms).map fun x => Sm03.numberOf (Sm03.valAt C l) (Sm03.wordOf s.now.terms x))) (by rw [lits_len, lits_len, List.length_map]) (by rw [lits_len]; omega) hD2 (fun H9 s9 => .inl (.inl (s9 _ _ hS8.inputs))) ?_ ?_
    · rintro i v H9 H10 y hi s9 ⟨rfl, hx'⟩ hy R N r
      obtain ⟨x, hx, rfl⟩ := lits_at hx'
      obtain ⟨z, hz, rfl⟩ := lits_at hy
      rw [List.getElem?_map, hx] at hz
      injection hz with hz
      subst hz
      have hxt := inIdx_in hx
      have hS9 := hS8.same s9
      obtain ⟨dx9, h19⟩ := hS9.ins
      obtain ⟨rs', ra, g3, g4, g5⟩ := hS9.word hxt
      have w8 := (hW.width hxt).2
      refine ⟨rfl, yes_of (if_true_of rfl ?_)⟩
      exact ⟨_, rfl, A.sa, CS, dx9, _, _, rfl, h19, T_State.cl, T_State.nT, sF_terms A, _, rfl, A.pt, _, _, _, rfl, rfl, .inl (.inl g3), atI_nat g4, _, rfl, ra, td, _, kvs, C, l, rfl, g5.1, by omega, s9 _ _ d8, hT, c1.symm, ule, fun H11 s11 => r _ s11⟩
    intro H9 s9 e9
    refine ⟨cc, D2, _, _, rfl, rfl, s9 _ _ ecc, e9, ?_, fun d hd => ?_⟩
    · exact Nat.le_of_lt (lim_lt (by show 2 + (lits _).length ≤ _; rw [lits_len, List.length_map]; omega))
    have e := ansd_same q hS (s08.trans s9) hd
    rw [told_list, List.length_map] at e
    rw [lits_len]
    exact e

abbrev s_answer_of_showing : Stmt := top 99
abbrev N_answer_of_showing : List Str := ["state", "which", "numbers", "shower"]
theorem sc_answer_of_showing : FnScope N_answer_of_showing ["state", "which", "numbers"] (defScope s_answer_of_showing) := ⟨rfl, rfl, rfl, by decide +kernel, rfl, by decide +kernel, by decide +kernel⟩
theorem ok_answer_of_showing (F : Fun K "answer_of_showing" "answer_of_showing" s_answer_of_showing f fd) {a_SHOWERS : Addr} (m_SHOWERS : mg "SHOWERS" = some (.ref a_SHOWERS)) {rm : List V} (kM : TupK K a_SHOWERS rm) (hM : ∀ c, c < 5 → ∃ f sp, rm[c]? = some (.ref f) ∧ Hld P w K mg base 4 f sp ∧ ∀ vs H Q E, spShow CS CG c vs H Q E → sp vs H Q E) : FnOk P w K mg base CX0 5 f fd ["state", "which", "numbers"] (spShowing CS CG) := by
  refine F.ok sc_answer_of_showing (fun vs H Q E h => ?_) (fun cdv A outer s H vs Q E hr h => ?_)
  · obtain ⟨_, _, _, _, _, _, _, rfl, _⟩ := h
    rfl
  · obtain ⟨A, s, c, nn, nums, row, x, rfl, hS, hc, hn, hr0, hrl, hx, q⟩ := h
    obtain ⟨fm, sm, hm1, hm2, hm3⟩ := hM c hc
    have hu := hu_of hr
    refine ⟨_, (pss_cons (ps_set (i := 3) sc_answer_of_showing.nd rfl (Or.inl rfl) (pe_ix ix_tup (pe_gr m_SHOWERS) (pv 1) (fun _ _ => rfl)))
      (pss_one (ps_ret (pe_callD (k := 4) (i := 3) hr rfl (pa_cons (pv 0) (pa_cons (pv 2) pa_nil)))))), ?_⟩
    refine ⟨_, rfl, a_SHOWERS, _, _, _, rfl, rfl, kM _, atI_nat hm1, ?_⟩
    exact ⟨fm, sm, rfl, hm2, _, rfl, _, rfl, hm3 _ _ _ _ ⟨A, s, nn, nums, row, x, rfl, hS, hn, hr0, hrl, hx, q⟩⟩
end
end BC

set_option Elab.async false
set_option linter.all false
set_option maxRecDepth 100000
set_option maxHeartbeats 2000000
namespace BC
open PySem PySem.Spec PyProof.Rows L2
/-! ### a call's answer, where the state's lists may be new ones -/
def KpU (A : Ad) (H H' : Hp) : Prop := ∀ b o, H b = some o → A.Out b → b ≠ A.k → b ≠ A.sa → H' b = some o
theorem KpU.of {A : Ad} {H H' : Hp} (h : KpS A H H') : KpU A H H' := fun b o e ob bk _ => h b o e ob bk
def AnsU (CS CG : Addr) (A : Ad) (H : Hp) (Q : VK) (r : Sm03.St × List Int) : Prop := ∀ (A' : Ad) (p : Addr) (H' : Hp), A'.sa = A.sa → A'.k = A.k → (∀ b o, H b = some o → A.Out b → A'.Out b) → SAt CS CG A' H' r.1 → KpU A H H' → WKp A A' H H' → H p = none → H' p = some (.lst (r.2.map V.int)) → Q (.ref p) H'
theorem AnsU.ansd {CS CG : Addr} {A : Ad} {H : Hp} {Q : VK} {r : Sm03.St × List Int} (h : AnsU CS CG A H Q r) : Ansd CS CG A H Q r := fun p H' hS k w hp e => h A p H' rfl rfl (fun _ _ _ o => o) hS (KpU.of k) w hp e
def spBack (CS CG : Addr) : Sp := fun vs H Q _ => ∃ (A : Ad) (s : Sm03.St) (m : Sm03.Stand) (r : List Sm03.Stand), vs = [.ref A.sa] ∧ SAt CS CG A H s ∧ s.marks = m :: r ∧
  ∀ (A' : Ad) (H' : Hp), A'.sa = A.sa → A'.k = A.k → (∀ b o, H b = some o → A.Out b → A'.Out b) → SAt CS CG A' H' ⟨m, r⟩ → KpU A H H' → WKp A A' H H' → (∀ b, H' b = none → H b = none) → Q .non H'
def spUndo (CS CG : Addr) : Sp := fun vs H Q _ => ∃ (A : Ad) (s : Sm03.St) (nn : Addr), vs = [.ref A.sa, .ref nn] ∧ SAt CS CG A H s ∧ AnsU CS CG A H Q (Sm03.step s .undo)
def spKeep (CS CG : Addr) (c : Nat) : Sp := fun vs H Q _ => ∃ (A : Ad) (s : Sm03.St) (nn : Addr) (nums : List Nat) (x : Sm03.Call), vs = [.ref A.sa, .ref nn] ∧ SAt CS CG A H s ∧ H nn = some (.lst (lits nums)) ∧ BS.callNat (10 + c) nums [] = some x ∧ AnsU CS CG A H Q (Sm03.step s x)
theorem keep0 {CS CG : Addr} (vs : List V) (H : Hp) (Q : VK) (E : XK) (h : spKeep CS CG 0 vs H Q E) : spClaim CS CG vs H Q E := by
  obtain ⟨A, s, nn, nums, x, e, hS, hn, hx, q⟩ := h
  match nums, hx with
  | [t], hx => injection hx with hx; subst hx; exact ⟨A, s, nn, t, e, hS, hn, q.ansd⟩
theorem keep1 {CS CG : Addr} (vs : List V) (H : Hp) (Q : VK) (E : XK) (h : spKeep CS CG 1 vs H Q E) : spMark CS CG vs H Q E := by
  obtain ⟨A, s, nn, nums, x, e, hS, hn, hx, q⟩ := h
  match nums, hx with
  | [], hx => injection hx with hx; subst hx; exact ⟨A, s, nn, e, hS, q.ansd⟩
theorem keep2 {CS CG : Addr} (vs : List V) (H : Hp) (Q : VK) (E : XK) (h : spKeep CS CG 2 vs H Q E) : spUndo CS CG vs H Q E := by
  obtain ⟨A, s, nn, nums, x, e, hS, hn, hx, q⟩ := h
  match nums, hx with
  | [], hx => injection hx with hx; subst hx; exact ⟨A, s, nn, e, hS, q⟩
/-- any call: its number, its numbers and behind them its row's -/
def spCall (CS CG : Addr) : Sp := fun vs H Q _ => ∃ (A : Ad) (s : Sm03.St) (c : Nat) (nn : Addr) (nums row : List Nat) (x : Sm03.Call), vs = [.ref A.sa, .int c, .ref nn] ∧ SAt CS CG A H s ∧ H nn = some (.lst (lits (nums ++ row))) ∧ A.Out nn ∧ c ≤ 22 ∧ (c < 21 → row = []) ∧ row.length ≤ 1210 ∧ BS.callNat c nums row = some x ∧
  AnsU CS CG A H Q (Sm03.step s x)
/-! ### the state made -/
theorem alloc_fld {C dx p q : Addr} {Hc : Hp} {fs fs' : List (Str × V)} (hp : Hc p = some (.ins C dx fs)) (hq : Hc q = none) :
    But p Hc (upd (upd Hc q (.lst [])) p (.ins C dx fs')) ∧ (upd (upd Hc q (.lst [])) p (.ins C dx fs')) p = some (.ins C dx fs') ∧ (upd (upd Hc q (.lst [])) p (.ins C dx fs')) q = some (.lst []) ∧ q ≠ p := by
  have n : q ≠ p := (ne_of_none hp hq).symm
  refine ⟨fun b o e bp => ?_, upd_same, ?_, n⟩
  · rw [upd_ne bp, upd_ne (ne_of_none e hq)]; exact e
  · rw [upd_ne n]; exact upd_same
theorem sF_new (A : Ad) : putF "marks" (.ref A.pm) (putF "claims" (.ref A.pc) (putF "inputs" (.ref A.pi) (putF "terms" (.ref A.pt) (putF "gates" (.ref A.ga) [])))) = sF A := by
  have go : ∀ {f g : Str} {v x : V} {r : List (Str × V)}, g ≠ f → putF f v ((g, x) :: r) = (g, x) :: putF f v r := fun h => by
    show (if _ then _ else _) = _
    rw [if_neg h]
  have e1 : ∀ {a b : V}, putF "terms" b [(("gates" : Str), a)] = [(("gates" : Str), a), ("terms", b)] := fun {a b} => by rw [go (by decide +kernel)]; rfl
  have e2 : ∀ {a b c : V}, putF "inputs" c [(("gates" : Str), a), ("terms", b)] = [(("gates" : Str), a), ("terms", b), ("inputs", c)] := fun {a b c} => by rw [go (by decide +kernel), go (by decide +kernel)]; rfl
  have e3 : ∀ {a b c d : V}, putF "claims" d [(("gates" : Str), a), ("terms", b), ("inputs", c)] = [(("gates" : Str), a), ("terms", b), ("inputs", c), ("claims", d)] := fun {a b c d} => by rw [go (by decide +kernel), go (by decide +kernel), go (by decide +kernel)]; rfl
  have e4 : ∀ {a b c d e : V}, putF "marks" e [(("gates" : Str), a), ("terms", b), ("inputs", c), ("claims", d)] = [(("gates" : Str), a), ("terms", b), ("inputs", c), ("claims", d), ("marks", e)] := fun {a b c d e} => by rw [go (by decide +kernel), go (by decide +kernel), go (by decide +kernel), go (by decide +kernel)]; rfl
  show putF "marks" _ (putF "claims" _ (putF "inputs" _ (putF "terms" _ [(("gates" : Str), V.ref A.ga)]))) = _
  rw [e1, e2, e3, e4]
  rfl
theorem wf_init : WF ⟨[], [], []⟩ := ⟨fun e h => (by cases h), Nat.zero_le _, Nat.zero_le _, Nat.zero_le _, fun e h => (by cases h), Nat.zero_le _, fun c h => (by cases h), BS.Good.nil⟩
/-! ### the way back: pure -/
theorem inIdx_appL : ∀ (a b : List Entry) (i : Nat), inIdx i (a ++ b) = inIdx i a ++ inIdx (i + a.length) b
  | [], b, i => rfl
  | x :: r, b, i => by
    have ih := inIdx_appL r b (i + 1)
    have el : i + 1 + r.length = i + (x :: r).length := by rw [List.length_cons]; omega
    rw [el] at ih
    show (match x.term with | .input _ => i :: inIdx (i + 1) (r ++ b) | _ => inIdx (i + 1) (r ++ b)) = (match x.term with | .input _ => i :: inIdx (i + 1) r | _ => inIdx (i + 1) r) ++ inIdx (i + (x :: r).length) b
    rw [ih]
    cases x.term <;> rfl
theorem inIdx_take {a d : List Entry} (h : a <+: d) : (inIdx 0 d).take (Sm03.inputs a).length = inIdx 0 a := by
  obtain ⟨t, rfl⟩ := h
  rw [inIdx_appL]
  exact List.take_left' (inIdx_len a 0)
theorem pre_take {α : Type} {a d : List α} (h : a <+: d) : d.take a.length = a := (List.prefix_iff_eq_take.mp h).symm
theorem Wds.take {A : Ad} {H : Hp} {rs : List Addr} {es : List Entry} (h : Wds A H rs es) : ∀ n : Nat, Wds A H (rs.take n) (es.take n) := by
  induction h with
  | nil => intro n; rw [List.take_nil, List.take_nil]; exact .nil
  | cons hh ho _ ih =>
    intro n
    cases n with
    | zero => exact .nil
    | succ n => exact .cons hh ho (ih n)
theorem Wds.out {A A' : Ad} {H H' : Hp} {rs : List Addr} {es : List Entry} (h : Wds A H rs es) (m : ∀ r xs, A.Out r → H r = some (.lst xs) → A'.Out r ∧ H' r = some (.lst xs)) : Wds A' H' rs es := by
  induction h with
  | nil => exact .nil
  | cons hh ho _ ih => exact .cons (m _ _ ho hh).2 (m _ _ ho hh).1 ih
theorem Mks.last {H : Hp} {d : Sm03.Stand} : ∀ {rs : List Addr} {ds : List Sm03.Stand}, Mks H rs (ds ++ [d]) → ∃ (rs' : List Addr) (r : Addr), rs = rs' ++ [r] ∧ Mks H rs' ds ∧ H r = some (.tup (mk4 d))
  | _, [], h => by
    cases h with
    | cons hh t => cases t; exact ⟨[], _, rfl, .nil, hh⟩
  | _, x :: ds, h => by
    cases h with
    | cons hh t =>
      obtain ⟨rs', r, e, h1, h2⟩ := Mks.last t
      exact ⟨_ :: rs', r, by rw [e]; rfl, .cons hh h1, h2⟩
theorem Chain.tail {d m : Sm03.Stand} {r : List Sm03.Stand} (h : Chain d (m :: r)) : Onto m d ∧ Chain m r := by
  cases h with
  | cons _ o t => exact ⟨o, t⟩
theorem alloc_put {C dx p q : Addr} {Hc : Hp} {o : HO} {fs fs' : List (Str × V)} (hp : Hc p = some (.ins C dx fs)) (hq : Hc q = none) :
    But p Hc (upd (upd Hc q o) p (.ins C dx fs')) ∧ (upd (upd Hc q o) p (.ins C dx fs')) p = some (.ins C dx fs') ∧ (upd (upd Hc q o) p (.ins C dx fs')) q = some o ∧ q ≠ p := by
  have n : q ≠ p := (ne_of_none hp hq).symm
  refine ⟨fun b o e bp => ?_, upd_same, ?_, n⟩
  · rw [upd_ne bp, upd_ne (ne_of_none e hq)]; exact e
  · rw [upd_ne n]; exact upd_same
section
theorem putF_here {f : Str} {v x : V} {r : List (Str × V)} : putF f v ((f, x) :: r) = (f, v) :: r := by
  show (if _ then _ else _) = _
  rw [if_pos rfl]
theorem putF_past {f g : Str} {v x : V} {r : List (Str × V)} (h : g ≠ f) : putF f v ((g, x) :: r) = (g, x) :: putF f v r := by
  show (if _ then _ else _) = _
  rw [if_neg h]
theorem sF_put1 (A : Ad) (q : Addr) : putF "terms" (.ref q) (sF A) = sF { A with pt := q } := by
  unfold sF
  rw [putF_past (by decide +kernel), putF_here]
theorem sF_put2 (A : Ad) (q : Addr) : putF "inputs" (.ref q) (sF A) = sF { A with pi := q } := by
  unfold sF
  rw [putF_past (by decide +kernel), putF_past (by decide +kernel), putF_here]
theorem sF_put3 (A : Ad) (q : Addr) : putF "claims" (.ref q) (sF A) = sF { A with pc := q } := by
  unfold sF
  rw [putF_past (by decide +kernel), putF_past (by decide +kernel), putF_past (by decide +kernel), putF_here]
theorem sF_len (A : Ad) : (sF A).length < 1000 := by show 5 < 1000; decide
end
theorem GAt.but2 {CG ga n k p C dx : Addr} {fs : List (Str × V)} {H H' : Hp} {g : Graph} (h : GAt CG ga n k H g) (m : But p H H') (hp : H p = some (.ins C dx fs)) (ne : ga ≠ p) : GAt CG ga n k H' g := by
  obtain ⟨d1, h1⟩ := h.ins
  obtain ⟨vs, h2, h3⟩ := h.nodes
  exact ⟨⟨d1, m _ _ h1 ne⟩, ⟨vs, m _ _ h2 (ne_of h2 hp (by intro z; cases z)), h3.mono fun q xs e => m _ _ e (ne_of e hp (by intro z; cases z))⟩, m _ _ h.known (ne_of h.known hp (by intro z; cases z)), h.uniq⟩
theorem SAt.ga_sa {CS CG : Addr} {A : Ad} {H : Hp} {s : Sm03.St} (h : SAt CS CG A H s) : A.ga ≠ A.sa := by
  obtain ⟨d1, h1⟩ := h.ins
  obtain ⟨d2, h2⟩ := h.gat.ins
  refine ne_of h2 h1 fun z => ?_
  injection z with _ _ z
  exact absurd (congrArg List.length z) (by show ¬ (2 = 5); decide)
theorem at3 (x y z w : Nat) (r : List Nat) : atI (lits (x :: y :: z :: w :: r)) 3 = some (.int (w : Int)) := atI_nat (j := 3) rfl
end BC

set_option Elab.async false
set_option linter.all false
set_option maxRecDepth 100000
set_option maxHeartbeats 2000000
namespace BC
open PySem PySem.Spec PyProof.Rows L2
section
variable {P : Program} {w : World} {K : PySem.W.Frag} {mg : Str → Option Value} {base : Heap} {CG CS CW : Addr} {f : Addr} {fd : FuncData}
abbrev s_StateI_initI : Stmt := inClass (top 101) 0
abbrev N_StateI_initI : List Str := ["self"]
theorem sc_StateI_initI : FnScope N_StateI_initI ["self"] (defScope s_StateI_initI) := ⟨rfl, rfl, rfl, by decide +kernel, rfl, by decide +kernel, by decide +kernel⟩
theorem ok_StateI_initI (F : Fun K "__init__" "State.__init__" s_StateI_initI f fd) (T_State : TState K CS) (M_Gates : DK P w K mg base CG 1 "Gates" (spGInit CG)) : FnOk P w K mg base CX0 3 f fd ["self"] (spSInit CS CG) := by
  refine F.ok sc_StateI_initI (fun vs H Q E h => ?_) (fun cdv A outer s H vs Q E hr h => ?_)
  · obtain ⟨_, _, rfl, _⟩ := h
    rfl
  · obtain ⟨p, dx, rfl, hp, q⟩ := h
    have hu := hu_of hr
    refine ⟨_, (pss_cons (ps_fld (pv 0) (pe_dk0 M_Gates hr) rfl)
      (pss_cons (ps_fld (pv 0) (pe_lst pa_nil) rfl)
      (pss_cons (ps_fld (pv 0) (pe_lst pa_nil) rfl)
      (pss_cons (ps_fld (pv 0) (pe_lst pa_nil) rfl)
      (pss_one (ps_fld (pv 0) (pe_lst pa_nil) rfl)))))), ?_⟩
    refine fun ga dg hga hdg hne => ⟨ga, dg, rfl, upd_same, fun H1 n k hG hn hk keep => ⟨rfl, ?_⟩⟩
    have s1 : Same H H1 := fun b o e => keep b o (by rw [upd_ne (ne_of_none e hga), upd_ne (ne_of_none e hdg)]; exact e) (ne_of_none e hga)
    have hn0 : H n = none := (free_upd (free_upd hn).1).1
    have hk0 : H k = none := (free_upd (free_upd hk).1).1
    have hp1 := s1 _ _ hp
    refine ⟨_, rfl, p, CS, dx, [], rfl, hp1, T_State.cl, T_State.nG, (by show 0 < 1000; decide), ?_⟩
    have b2 : But p H1 (upd H1 p (.ins CS dx (putF "gates" (.ref ga) []))) := But.refl.upd
    have p2 : (upd H1 p (.ins CS dx (putF "gates" (.ref ga) []))) p = some (.ins CS dx (putF "gates" (.ref ga) [])) := upd_same
    generalize upd H1 p (.ins CS dx (putF "gates" (.ref ga) [])) = H2 at b2 p2 ⊢
    refine ⟨Nat.zero_le _, fun pt hpt => ⟨_, rfl, p, CS, dx, _, rfl, (by rw [upd_ne (ne_of_none p2 hpt)]; exact p2), T_State.cl, T_State.nT, (by show 1 < 1000; decide), ?_⟩⟩
    obtain ⟨b3, p3, t3, nt⟩ := alloc_fld (fs' := putF "terms" (.ref pt) (putF "gates" (.ref ga) [])) p2 hpt
    generalize upd (upd H2 pt (.lst [])) p (.ins CS dx (putF "terms" (.ref pt) (putF "gates" (.ref ga) []))) = H3 at b3 p3 t3 ⊢
    refine ⟨Nat.zero_le _, fun pi hpi => ⟨_, rfl, p, CS, dx, _, rfl, (by rw [upd_ne (ne_of_none p3 hpi)]; exact p3), T_State.cl, T_State.nI, (by show 2 < 1000; decide), ?_⟩⟩
    obtain ⟨b4, p4, i4, ni⟩ := alloc_fld (fs' := putF "inputs" (.ref pi) (putF "terms" (.ref pt) (putF "gates" (.ref ga) []))) p3 hpi
    generalize upd (upd H3 pi (.lst [])) p (.ins CS dx (putF "inputs" (.ref pi) (putF "terms" (.ref pt) (putF "gates" (.ref ga) [])))) = H4 at b4 p4 i4 ⊢
    refine ⟨Nat.zero_le _, fun pc hpc => ⟨_, rfl, p, CS, dx, _, rfl, (by rw [upd_ne (ne_of_none p4 hpc)]; exact p4), T_State.cl, T_State.nC, (by show 3 < 1000; decide), ?_⟩⟩
    obtain ⟨b5, p5, c5, nc⟩ := alloc_fld (fs' := putF "claims" (.ref pc) (putF "inputs" (.ref pi) (putF "terms" (.ref pt) (putF "gates" (.ref ga) [])))) p4 hpc
    generalize upd (upd H4 pc (.lst [])) p (.ins CS dx (putF "claims" (.ref pc) (putF "inputs" (.ref pi) (putF "terms" (.ref pt) (putF "gates" (.ref ga) []))))) = H5 at b5 p5 c5 ⊢
    refine ⟨Nat.zero_le _, fun pm hpm => ⟨_, rfl, p, CS, dx, _, rfl, (by rw [upd_ne (ne_of_none p5 hpm)]; exact p5), T_State.cl, T_State.nM, (by show 4 < 1000; decide), ?_⟩⟩
    obtain ⟨b6, p6, m6, nm⟩ := alloc_fld (fs' := putF "marks" (.ref pm) (putF "claims" (.ref pc) (putF "inputs" (.ref pi) (putF "terms" (.ref pt) (putF "gates" (.ref ga) []))))) p5 hpm
    generalize upd (upd H5 pm (.lst [])) p (.ins CS dx (putF "marks" (.ref pm) (putF "claims" (.ref pc) (putF "inputs" (.ref pi) (putF "terms" (.ref pt) (putF "gates" (.ref ga) [])))))) = H6 at b6 p6 m6 ⊢
    have b16 := b2.trans (b3.trans (b4.trans (b5.trans b6)))
    obtain ⟨ns, hns, hN⟩ := hG.nodes
    have np : n ≠ p := ne_of hns hp1 (by intro z; cases z)
    have n2 := b2 _ _ hns np
    have n3 := b3 _ _ n2 np
    have n4 := b4 _ _ n3 np
    have n5 := b5 _ _ n4 np
    have t4 := b4 _ _ t3 nt
    have t5 := b5 _ _ t4 nt
    have t6 := b6 _ _ t5 nt
    have i5 := b5 _ _ i4 ni
    have i6 := b6 _ _ i5 ni
    have c6 := b6 _ _ c5 nc
    refine q H6 ⟨p, ga, n, k, pt, pi, pc, pm⟩ rfl ⟨⟨dx, ?_⟩, hG.but b16 hp1, ⟨[], t6, .nil⟩, i6, c6, ⟨[], m6, .nil⟩, ⟨(ne_of_none n2 hpt).symm, (ne_of_none n3 hpi).symm, (ne_of_none n4 hpc).symm, (ne_of_none n5 hpm).symm⟩, ⟨ne_of_none t3 hpi, ne_of_none t4 hpc, ne_of_none t5 hpm, ne_of_none i4 hpc, ne_of_none i5 hpm, ne_of_none c5 hpm⟩, Nat.zero_le _, .nil wf_init⟩ (fun b o e bp => ?_) fun b o e bp => b16 _ _ (s1 _ _ e) bp
    · rw [p6]
      exact congrArg (fun z => some (HO.ins CS dx z)) (sF_new ⟨p, ga, n, k, pt, pi, pc, pm⟩)
    · have e1 := s1 _ _ e
      have e2 := b2 _ _ e1 bp
      have e3 := b3 _ _ e2 bp
      have e4 := b4 _ _ e3 bp
      have e5 := b5 _ _ e4 bp
      exact ⟨⟨ne_of_none e hn0, ne_of_none e2 hpt, ne_of_none e3 hpi, ne_of_none e4 hpc, ne_of_none e5 hpm⟩, ne_of_none e hk0⟩

abbrev s_State_back_to_mark : Stmt := inClass (top 101) 5
abbrev N_State_back_to_mark : List Str := ["self", "kept"]
theorem sc_State_back_to_mark : FnScope N_State_back_to_mark ["self"] (defScope s_State_back_to_mark) := ⟨rfl, rfl, rfl, by decide +kernel, rfl, by decide +kernel, by decide +kernel⟩
theorem ok_State_back_to_mark (F : Fun K "back_to_mark" "State.back_to_mark" s_State_back_to_mark f fd) (T_State : TState K CS) (D_shrink : DM P w K mg base CG 1 "shrink" (spShrink CG)) : FnOk P w K mg base CX0 2 f fd ["self"] (spBack CS CG) := by
  refine F.ok sc_State_back_to_mark (fun vs H Q E h => ?_) (fun cdv A outer s H vs Q E hr h => ?_)
  · obtain ⟨_, _, _, _, rfl, _⟩ := h
    rfl
  · obtain ⟨A, s, m, r, rfl, hS, hm, q⟩ := h
    obtain ⟨dx, h1⟩ := hS.ins
    obtain ⟨ms, h4, h5⟩ := hS.marks
    obtain ⟨ts, h2, h3⟩ := hS.terms
    have hu := hu_of hr
    refine ⟨_, (pss_cons (ps_set (i := 1) sc_State_back_to_mark.nd rfl (Or.inl rfl) (pe_bm0 PySem.F.plainAttrs_list PySem.F.slot_list_pop PySem.F.type_list_pop mt_pop (pe_fld (pv 0) rfl)))
      (pss_cons (ps_fld (pv 0) (pe_slice sl_list (pe_fld (pv 0) rfl) po_none (po_some (pe_ix ix_tup (pv 1) pe_int (fun _ _ => rfl)))) rfl)
      (pss_cons (ps_fld (pv 0) (pe_slice sl_list (pe_fld (pv 0) rfl) po_none (po_some (pe_ix ix_tup (pv 1) pe_int (fun _ _ => rfl)))) rfl)
      (pss_cons (ps_fld (pv 0) (pe_slice sl_list (pe_fld (pv 0) rfl) po_none (po_some (pe_ix ix_tup (pv 1) pe_int (fun _ _ => rfl)))) rfl)
      (pss_one (ps_expr (pe_dm (pe_fld (pv 0) rfl) D_shrink hr (pa_cons (pe_ix ix_tup (pv 1) pe_int (fun _ _ => rfl)) pa_nil)))))))), ?_⟩
    have hch := hS.ch
    rw [hm] at hch h5
    obtain ⟨on, hch2⟩ := hch.tail
    rw [List.reverse_cons] at h5
    obtain ⟨ms', mr, rfl, h6, h7⟩ := Mks.last h5
    obtain ⟨d11, d12, d13, d14⟩ := hS.d1
    obtain ⟨d21, d22, d23, d24, d25, d26⟩ := hS.d2
    have ml := hS.ml
    refine ⟨_, rfl, A.sa, CS, dx, _, _, rfl, h1, T_State.cl, T_State.nM, sF_marks A, .inl ⟨rfl, _, .inl (.inl h4)⟩, A.pm, _, .ref mr, rfl, rfl, h4, ?_, ?_⟩
    · rw [List.map_append, List.length_append]
      show (ms'.map V.ref ++ [V.ref mr])[(ms'.map V.ref).length + 1 - 1]? = _
      rw [Nat.add_sub_cancel, List.getElem?_append_right (Nat.le_refl _), Nat.sub_self]
      rfl
    rw [List.map_append, show ([mr].map V.ref) = [V.ref mr] from rfl, List.dropLast_concat]
    have b1 : But A.pm H (upd H A.pm (.lst (ms'.map V.ref))) := But.refl.upd
    have m1 : (upd H A.pm (.lst (ms'.map V.ref))) A.pm = some (.lst (ms'.map V.ref)) := upd_same
    have g1 := hS.gat.updL (ys := ms'.map V.ref) h4 d14
    generalize upd H A.pm (.lst (ms'.map V.ref)) = H1 at b1 m1 g1 ⊢
    have sapm : A.sa ≠ A.pm := ne_of h1 h4 (by intro z; cases z)
    have h11 := b1 _ _ h1 sapm
    have h71 : H1 mr = some (.tup (lits [m.terms.length, (Sm03.inputs m.terms).length, m.claims.length, m.graph.length])) := b1 _ _ h7 (ne_of h7 h4 (by intro z; cases z))
    have h21 := b1 _ _ h2 d23
    have i1 := b1 _ _ hS.inputs d25
    have c1 := b1 _ _ hS.claims d26
    refine ⟨_, rfl, A.sa, CS, dx, _, _, rfl, h11, T_State.cl, T_State.nT, sF_terms A, _, rfl, mr, _, _, _, rfl, rfl, .inl (.inl h71), at0 _ _, _, rfl, A.pt, _, rfl, .inl (.inl h21), fun pt' hpt => ?_⟩
    rw [cut_to, ← List.map_take]
    refine ⟨_, rfl, A.sa, CS, dx, _, rfl, (by rw [upd_ne (ne_of_none h11 hpt)]; exact h11), T_State.cl, T_State.nT, sF_len A, ?_⟩
    obtain ⟨b2, p2, t2, nt⟩ := alloc_put (o := .lst ((ts.take m.terms.length).map V.ref)) (fs' := putF "terms" (.ref pt') (sF A)) h11 hpt
    generalize upd (upd H1 pt' (.lst ((ts.take m.terms.length).map V.ref))) A.sa (.ins CS dx (putF "terms" (.ref pt') (sF A))) = H2 at b2 p2 t2 ⊢
    rw [sF_put1] at p2
    have e72 := b2 _ _ h71 (ne_of h71 h11 (by intro z; cases z))
    have i2 := b2 _ _ i1 (ne_of i1 h11 (by intro z; cases z))
    have c2 := b2 _ _ c1 (ne_of c1 h11 (by intro z; cases z))
    refine ⟨_, rfl, A.sa, CS, dx, _, _, rfl, p2, T_State.cl, T_State.nI, sF_inputs _, _, rfl, mr, _, _, _, rfl, rfl, .inl (.inl e72), at1 _ _ _, _, rfl, A.pi, _, rfl, .inl (.inl i2), fun pi' hpi => ?_⟩
    rw [cut_to, lits_take, inIdx_take on.t]
    refine ⟨_, rfl, A.sa, CS, dx, _, rfl, (by rw [upd_ne (ne_of_none p2 hpi)]; exact p2), T_State.cl, T_State.nI, sF_len _, ?_⟩
    obtain ⟨b3, p3, i3, ni⟩ := alloc_put (o := .lst (lits (inIdx 0 m.terms))) (fs' := putF "inputs" (.ref pi') (sF { A with pt := pt' })) p2 hpi
    generalize upd (upd H2 pi' (.lst (lits (inIdx 0 m.terms)))) A.sa (.ins CS dx (putF "inputs" (.ref pi') (sF { A with pt := pt' }))) = H3 at b3 p3 i3 ⊢
    rw [sF_put2] at p3
    have e73 := b3 _ _ e72 (ne_of e72 p2 (by intro z; cases z))
    have c3 := b3 _ _ c2 (ne_of c2 p2 (by intro z; cases z))
    refine ⟨_, rfl, A.sa, CS, dx, _, _, rfl, p3, T_State.cl, T_State.nC, sF_claims _, _, rfl, mr, _, _, _, rfl, rfl, .inl (.inl e73), at2 _ _ _ _, _, rfl, A.pc, _, rfl, .inl (.inl c3), fun pc' hpc => ?_⟩
    rw [cut_to, lits_take, pre_take on.c]
    refine ⟨_, rfl, A.sa, CS, dx, _, rfl, (by rw [upd_ne (ne_of_none p3 hpc)]; exact p3), T_State.cl, T_State.nC, sF_len _, ?_⟩
    obtain ⟨b4, p4, c4, nc⟩ := alloc_put (o := .lst (lits m.claims)) (fs' := putF "claims" (.ref pc') (sF { A with pt := pt', pi := pi' })) p3 hpc
    generalize upd (upd H3 pc' (.lst (lits m.claims))) A.sa (.ins CS dx (putF "claims" (.ref pc') (sF { A with pt := pt', pi := pi' }))) = H4 at b4 p4 c4 ⊢
    rw [sF_put3] at p4
    have e74 := b4 _ _ e73 (ne_of e73 p3 (by intro z; cases z))
    have gas := hS.ga_sa
    have b14 := b2.trans (b3.trans b4)
    have g4 := g1.but2 b14 h11 gas
    obtain ⟨dg4, hg4⟩ := g4.ins
    refine ⟨_, rfl, A.sa, CS, dx, _, _, rfl, p4, T_State.cl, T_State.nG, sF_gates _, A.ga, dg4, _, rfl, hg4, by rfl, _, rfl, mr, _, _, _, rfl, rfl, .inl (.inl e74), at3 _ _ _ _ _, A.ga, A.n, A.k, _, m.graph.length, rfl, g4, on.g.length_le, fun H5 g5 k5 => ?_⟩
    rw [pre_take on.g] at g5
    obtain ⟨ns4, hn4, _⟩ := g4.nodes
    have hk4 := g4.known
    obtain ⟨ns0, hn0, _⟩ := hS.gat.nodes
    have hk0 := hS.gat.known
    have stay : ∀ b o, H b = some o → b ≠ A.pm → b ≠ A.sa → b ≠ A.n → b ≠ A.k → H5 b = some o := fun b o e n1 n2 n3 n4 => k5 _ _ (b14 _ _ (b1 _ _ e n1) n2) n3 n4
    have stayL : ∀ b xs, H b = some (.lst xs) → b ≠ A.pm → b ≠ A.n → H5 b = some (.lst xs) := fun b xs e n1 n3 => stay b _ e n1 (ne_of e h1 (by intro z; cases z)) n3 (ne_of e hk0 (by intro z; cases z))
    have stayT : ∀ b xs, H b = some (.tup xs) → H5 b = some (.tup xs) := fun b xs e => stay b _ e (ne_of e h4 (by intro z; cases z)) (ne_of e h1 (by intro z; cases z)) (ne_of e hn0 (by intro z; cases z)) (ne_of e hk0 (by intro z; cases z))
    have up : ∀ b o, H b = some o → ∃ o', H1 b = some o' := fun b o e => by
      by_cases x : b = A.pm
      · rw [x]; exact ⟨_, m1⟩
      · exact ⟨_, b1 _ _ e x⟩
    have up2 : ∀ b o, H b = some o → ∃ o', H2 b = some o' := fun b o e => by
      obtain ⟨o', e'⟩ := up b o e
      by_cases x : b = A.sa
      · rw [x]; exact ⟨_, p2⟩
      · exact ⟨_, b2 _ _ e' x⟩
    have up3 : ∀ b o, H b = some o → ∃ o', H3 b = some o' := fun b o e => by
      obtain ⟨o', e'⟩ := up2 b o e
      by_cases x : b = A.sa
      · rw [x]; exact ⟨_, p3⟩
      · exact ⟨_, b3 _ _ e' x⟩
    have fpt : ∀ b o, H b = some o → b ≠ pt' := fun b o e => by obtain ⟨o', e'⟩ := up b o e; exact ne_of_none e' hpt
    have fpi : ∀ b o, H b = some o → b ≠ pi' := fun b o e => by obtain ⟨o', e'⟩ := up2 b o e; exact ne_of_none e' hpi
    have fpc : ∀ b o, H b = some o → b ≠ pc' := fun b o e => by obtain ⟨o', e'⟩ := up3 b o e; exact ne_of_none e' hpc
    have out : ∀ b o, H b = some o → A.Out b → Ad.Out ⟨A.sa, A.ga, A.n, A.k, pt', pi', pc', A.pm⟩ b := fun b o e ob => ⟨ob.n, fpt b o e, fpi b o e, fpc b o e, ob.pm⟩
    have t3 := b3 _ _ t2 nt
    have t4 := b4 _ _ t3 nt
    have i4 := b4 _ _ i3 ni
    have t5 : H5 pt' = some (.lst ((ts.take m.terms.length).map V.ref)) := k5 _ _ t4 (fpt _ _ hn0).symm (ne_of t4 hk4 (by intro z; cases z))
    have i5 : H5 pi' = some (.lst (lits (inIdx 0 m.terms))) := k5 _ _ i4 (fpi _ _ hn0).symm (ne_of i4 hk4 (by intro z; cases z))
    have c5 : H5 pc' = some (.lst (lits m.claims)) := k5 _ _ c4 (fpc _ _ hn0).symm (ne_of c4 hk4 (by intro z; cases z))
    have pmn : A.pm ≠ A.n := d14
    have m4 := b14 _ _ m1 sapm.symm
    have m5 : H5 A.pm = some (.lst (ms'.map V.ref)) := k5 _ _ m4 pmn (ne_of m4 hk4 (by intro z; cases z))
    have p5 : H5 A.sa = some (.ins CS dx (sF ⟨A.sa, A.ga, A.n, A.k, pt', pi', pc', A.pm⟩)) := k5 _ _ p4 (ne_of p4 hn4 (by intro z; cases z)) (ne_of p4 hk4 (by intro z; cases z))
    have hw := (h3.take m.terms.length).out (A' := ⟨A.sa, A.ga, A.n, A.k, pt', pi', pc', A.pm⟩) (H' := H5) fun r xs ob e => ⟨out r _ e ob, stayL r xs e ob.pm ob.n⟩
    rw [pre_take on.t] at hw
    rw [hm, List.length_cons] at ml
    refine q ⟨A.sa, A.ga, A.n, A.k, pt', pi', pc', A.pm⟩ H5 rfl rfl out ⟨⟨dx, p5⟩, g5, ⟨_, t5, hw⟩, i5, c5, ⟨ms', m5, h6.mono stayT⟩, ⟨(fpt _ _ hn0).symm, (fpi _ _ hn0).symm, (fpc _ _ hn0).symm, pmn⟩, ⟨ne_of_none t2 hpi, ne_of_none t3 hpc, (fpt _ _ h4).symm, ne_of_none i3 hpc, (fpi _ _ h4).symm, (fpc _ _ h4).symm⟩, (by show r.length ≤ 8; omega), hch2⟩ (fun b o e ob bk bs => stay b o e ob.pm bs ob.n bk) (fun x o ex nw rs' e => ?_) fun b hb => ?_
    · rw [t5] at e
      injection e with e
      injection e with e
      rw [← refs_inj e]
      exact fun hx => nw ts h2 (List.mem_of_mem_take hx)
    · cases e : H b with
      | none => rfl
      | some o =>
        exfalso
        obtain ⟨ns5, hn5, _⟩ := g5.nodes
        have x1 : b ≠ A.pm := (ne_of_none m5 hb).symm
        have x2 : b ≠ A.sa := (ne_of_none p5 hb).symm
        have x3 : b ≠ A.n := (ne_of_none hn5 hb).symm
        have x4 : b ≠ A.k := (ne_of_none g5.known hb).symm
        rw [stay b o e x1 x2 x3 x4] at hb
        cases hb

abbrev s_answer_of_undo : Stmt := top 107
abbrev N_answer_of_undo : List Str := ["state", "numbers"]
theorem sc_answer_of_undo : FnScope N_answer_of_undo ["state", "numbers"] (defScope s_answer_of_undo) := ⟨rfl, rfl, rfl, by decide +kernel, rfl, by decide +kernel, by decide +kernel⟩
theorem ok_answer_of_undo (F : Fun K "answer_of_undo" "answer_of_undo" s_answer_of_undo f fd) (b_len : mg "len" = none) (T_State : TState K CS) (g_NO_MARK : GI mg "NO_MARK" (-7)) (D_back_to_mark : DM P w K mg base CS 2 "back_to_mark" (spBack CS CG)) : FnOk P w K mg base CX0 3 f fd ["state", "numbers"] (spUndo CS CG) := by
  refine F.ok sc_answer_of_undo (fun vs H Q E h => ?_) (fun cdv A outer s H vs Q E hr h => ?_)
  · obtain ⟨_, _, _, rfl, _⟩ := h
    rfl
  · obtain ⟨A, s, nn, rfl, hS, q⟩ := h
    obtain ⟨dx, h1⟩ := hS.ins
    obtain ⟨ms, h4, h5⟩ := hS.marks
    have q : AnsU CS CG A H Q (match s.marks with
        | [] => (s, [-7])
        | m :: r => (⟨m, r⟩, Sm03.ints [m.terms.length, m.claims.length])) := q
    have hu := hu_of hr
    refine ⟨_, (pss_cons (ps_if (pt_cmpR op_eq (pe_callB call_len_seq (by rfl) b_len PySem.boot_len (pa_cons (pe_fld (pv 0) rfl) pa_nil)) pe_int (nomark _))
      (pss_one (ps_ret (pe_lst (pa_cons (pe_gi g_NO_MARK) pa_nil))))
      pss_nil)
      (pss_cons (ps_expr (pe_dm0 (pv 0) D_back_to_mark hr))
      (pss_one (ps_ret (pe_lst (pa_cons (pe_callB call_len_seq (by rfl) b_len PySem.boot_len (pa_cons (pe_fld (pv 0) rfl) pa_nil)) (pa_cons (pe_callB call_len_seq (by rfl) b_len PySem.boot_len (pa_cons (pe_fld (pv 0) rfl) pa_nil)) pa_nil))))))), ?_⟩
    have ml : ms.length = s.marks.length := by rw [h5.len, List.length_reverse]
    refine ⟨_, rfl, A.sa, CS, dx, _, _, rfl, h1, T_State.cl, T_State.nM, sF_marks A, A.pm, _, rfl, .inl (.inl (.inl h4)), rfl, _, rfl, ?_⟩
    rw [List.length_map, ml, show decide (V.int ((s.marks.length : Nat) : Int) = V.int 0) = decide (s.marks.length = 0) from dec_eqN _ 0]
    cases hm : s.marks with
    | nil =>
      rw [hm] at q
      exact if_true_of (decide_eq_true rfl) ⟨(by show 1 ≤ sizeLine; decide), fun p hp => ansd_same q.ansd hS (Same.refl H) hp⟩
    | cons m r =>
      rw [hm] at q
      refine if_false_of (decide_eq_false (by rw [List.length_cons]; omega)) ?_
      refine ⟨_, rfl, A.sa, dx, _, rfl, h1, by rfl, A, s, m, r, rfl, hS, hm, fun A' H1 e1 e2 out hS1 k1 w1 f1 => ?_⟩
      obtain ⟨dx1, h11⟩ := hS1.ins
      rw [e1] at h11
      obtain ⟨ts, t1, t2⟩ := hS1.terms
      refine ⟨_, rfl, A.sa, CS, dx1, _, _, rfl, h11, T_State.cl, T_State.nT, sF_terms A', A'.pt, _, rfl, .inl (.inl (.inl t1)), ?_⟩
      refine ⟨_, rfl, A.sa, CS, dx1, _, _, rfl, h11, T_State.cl, T_State.nC, sF_claims A', A'.pc, _, rfl, .inl (.inl (.inl hS1.claims)), (by show 2 ≤ sizeLine; decide), fun p hp => ?_⟩
      rw [List.length_map, t2.len, lits_len]
      have sp := same_upd (o := .lst [.int ((m.terms.length : Nat) : Int), .int ((m.claims.length : Nat) : Int)]) hp
      refine q A' p _ e1 e2 out (hS1.same sp) (fun b o e ob bk bs => sp _ _ (k1 b o e ob bk bs)) (fun x o ex nw rs' e => ?_) (f1 p hp) upd_same
      refine w1 x o ex nw rs' ?_
      rw [sp _ _ t1] at e
      rw [t1, e]
end
end BC

set_option Elab.async false
set_option linter.all false
set_option maxRecDepth 100000
set_option maxHeartbeats 2000000
namespace BC
open PySem PySem.Spec PyProof.Rows L2
/-! ### the calls' numbers -/
theorem call_tm {c : Nat} {nums row : List Nat} {x : Sm03.Call} (hc : c < 10) (h : BS.callNat c nums row = some x) : ∃ t, tmOf c nums = some t ∧ x = .new t := by
  match c, hc with
  | 0, _ => match nums, h with | [w], h => injection h with h; exact ⟨_, rfl, h.symm⟩
  | 1, _ => match nums, h with | [w, v], h => injection h with h; exact ⟨_, rfl, h.symm⟩
  | 2, _ => match nums, h with | [a], h => injection h with h; exact ⟨_, rfl, h.symm⟩
  | 3, _ => match nums, h with | [a], h => injection h with h; exact ⟨_, rfl, h.symm⟩
  | 4, _ =>
    match nums, h with
    | [o, a, b], h =>
      have h : (Sm03Neutral.opOf o).map (fun x => Sm03.Call.new (.two x a b)) = some x := h
      obtain ⟨y, h1, h2⟩ := Option.map_eq_some_iff.mp h
      refine ⟨.two y a b, ?_, h2.symm⟩
      show (Sm03Neutral.opOf o).map (fun x => Sm03.Term.two x a b) = _
      rw [h1]
      rfl
  | 5, _ => match nums, h with | [a, b], h => injection h with h; exact ⟨_, rfl, h.symm⟩
  | 6, _ => match nums, h with | [a, lo, n], h => injection h with h; exact ⟨_, rfl, h.symm⟩
  | 7, _ => match nums, h with | [a, w], h => injection h with h; exact ⟨_, rfl, h.symm⟩
  | 8, _ => match nums, h with | [a, w], h => injection h with h; exact ⟨_, rfl, h.symm⟩
  | 9, _ => match nums, h with | [a, b, d], h => injection h with h; exact ⟨_, rfl, h.symm⟩
theorem call22 {nums row : List Nat} {x : Sm03.Call} (h : BS.callNat 22 nums row = some x) : ∃ t, nums = [t] ∧ x = .value t row := by
  match nums, h with | [t], h => injection h with h; exact ⟨_, rfl, h.symm⟩
theorem call_row {c : Nat} {nums row : List Nat} {x : Sm03.Call} (hc : c < 21) (h : BS.callNat c nums row = some x) : BS.callNat c nums [] = some x := by
  match c, hc with
  | 0, _ => match nums, h with | [w], h => exact h
  | 1, _ => match nums, h with | [w, v], h => exact h
  | 2, _ => match nums, h with | [a], h => exact h
  | 3, _ => match nums, h with | [a], h => exact h
  | 4, _ => match nums, h with | [o, a, b], h => exact h
  | 5, _ => match nums, h with | [a, b], h => exact h
  | 6, _ => match nums, h with | [a, lo, n], h => exact h
  | 7, _ => match nums, h with | [a, w], h => exact h
  | 8, _ => match nums, h with | [a, w], h => exact h
  | 9, _ => match nums, h with | [a, b, d], h => exact h
  | 10, _ => match nums, h with | [a], h => exact h
  | 11, _ => match nums, h with | [], h => exact h
  | 12, _ => match nums, h with | [], h => exact h
  | 13, _ => match nums, h with | [], h => exact h
  | 14, _ => match nums, h with | [a, b], h => exact h
  | 15, _ => match nums, h with | [a], h => exact h
  | 16, _ => match nums, h with | [], h => exact h
  | 17, _ => match nums, h with | [a], h => exact h
  | 18, _ => match nums, h with | [a], h => exact h
  | 19, _ => match nums, h with | [], h => exact h
  | 20, _ => match nums, h with | [], h => exact h
  | c + 21, hc => exact absurd hc (by omega)
theorem sizes_few : ∀ p, p < 23 → ([1, 2, 1, 1, 3, 2, 3, 2, 2, 3, 1, 0, 0, 0, 2, 1, 0, 1, 1, 0, 0, 0, 1] : List Nat)[p]? = some (BS.few p) := by decide
theorem cut_gen (xs : List V) (lo n : Nat) : cutV xs (some (lo : Int)) (some ((lo + n : Nat) : Int)) = (xs.drop lo).take n := by
  unfold cutV
  rw [HT.sIx_nat, HT.sIx_nat]
  by_cases h : lo + n ≤ xs.length
  · rw [Nat.min_eq_left (by omega), Nat.min_eq_left (by omega)]
    congr 1
    omega
  · by_cases h2 : lo ≤ xs.length
    · rw [Nat.min_eq_left h2, Nat.min_eq_right (by omega), List.take_of_length_le (by rw [List.length_drop]; exact Nat.le_refl _), List.take_of_length_le (by rw [List.length_drop]; omega)]
    · rw [Nat.min_eq_right (by omega), Nat.min_eq_right (by omega), List.drop_eq_nil_of_le (Nat.le_refl _), List.drop_eq_nil_of_le (by omega), List.take_nil, List.take_nil]
theorem cs_lits (ws : List Nat) : (BS.cs ws).map V.int = lits ws := ints_lits ws
theorem cs_len (ws : List Nat) : (BS.cs ws).length = ws.length := List.length_map ..
section
variable {pre mid rest : List Int} {p : Int}
theorem at_pre : ((pre ++ p :: rest).map V.int)[pre.length]? = some (.int p) := by
  rw [List.getElem?_map, List.getElem?_append_right (Nat.le_refl _), Nat.sub_self]
  rfl
theorem cut_pre {ws : List Nat} {lo : Nat} (h : lo = pre.length) : cutV ((pre ++ (BS.cs ws ++ rest)).map V.int) (some (lo : Int)) (some ((lo + ws.length : Nat) : Int)) = lits ws := by
  subst h
  rw [cut_gen, List.map_append, List.map_append, cs_lits, List.drop_left' (List.length_map ..), List.take_left' (lits_len ws)]
end
/-! ### the state beside what is told -/
theorem Wds.monoM {A : Ad} {H H' : Hp} {rs : List Addr} {es : List Entry} (h : Wds A H rs es) (m : ∀ r ∈ rs, ∀ xs, H r = some (.lst xs) → H' r = some (.lst xs)) : Wds A H' rs es := by
  induction h with
  | nil => exact .nil
  | cons hh ho _ ih => exact .cons (m _ (List.mem_cons_self ..) _ hh) ho (ih fun r hr => m r (List.mem_cons_of_mem _ hr))
theorem Wds.some {A : Ad} {H : Hp} {rs : List Addr} {es : List Entry} (h : Wds A H rs es) {r : Addr} (hr : r ∈ rs) : ∃ xs, H r = some (.lst xs) := by
  induction h with
  | nil => cases hr
  | cons hh _ _ ih =>
    rcases List.mem_cons.mp hr with e | hr
    · subst e; exact ⟨_, hh⟩
    · exact ih hr
section
variable {CS CG : Addr} {A : Ad} {H H' : Hp} {s : Sm03.St} {p : Addr}
theorem SAt.nw (h : SAt CS CG A H s) (hp : H p = none) : NW A H p := fun rs e hm => by
  obtain ⟨rs0, h2, h3⟩ := h.terms
  rw [h2] at e
  injection e with e
  injection e with e
  rw [← refs_inj e] at hm
  obtain ⟨xs, hx⟩ := h3.some hm
  rw [hp] at hx
  cases hx
theorem NW.same (n : NW A H p) {o : HO} (h : H A.pt = some o) (h' : H' A.pt = some o) : NW A H' p := fun rs e => n rs (by rw [h, ← h', e])
theorem SAt.beside (h : SAt CS CG A H s) {xs ys : List V} (hp : H p = some (.lst xs)) (ho : A.Out p) (hk : p ≠ A.k) (nw : NW A H p) : SAt CS CG A (upd H p (.lst ys)) s := by
  obtain ⟨dx, h1⟩ := h.ins
  obtain ⟨rs, h2, h3⟩ := h.terms
  obtain ⟨ms, h4, h5⟩ := h.marks
  refine ⟨⟨dx, ?_⟩, h.gat.updL hp ho.n, ⟨rs, ?_, h3.monoM fun r hr xs e => ?_⟩, ?_, ?_, ⟨ms, ?_, h5.mono fun r xs e => ?_⟩, h.d1, h.d2, h.ml, h.ch⟩
  · rw [upd_ne (ne_of h1 hp (by intro z; cases z))]; exact h1
  · rw [upd_ne ho.pt.symm]; exact h2
  · rw [upd_ne (fun z : r = p => nw rs h2 (by rw [← z]; exact hr))]; exact e
  · rw [upd_ne ho.pi.symm]; exact h.inputs
  · rw [upd_ne ho.pc.symm]; exact h.claims
  · rw [upd_ne ho.pm.symm]; exact h4
  · rw [upd_ne (ne_of e hp (by intro z; cases z))]; exact e
end
/-- the list that was handed in: it stays -/
def CalAt (K : PySem.W.Frag) (A : Ad) (H : Hp) (a : Addr) (xs : List V) : Prop := (∃ o, H a = some (.frz o (.lst xs)) ∧ A.Out a ∧ a ≠ A.k) ∨ ∀ H', SqL K H' a xs
theorem CalAt.sq {K : PySem.W.Frag} {A : Ad} {H : Hp} {a : Addr} {xs : List V} (h : CalAt K A H a xs) : SqL K H a xs := by
  rcases h with ⟨o, h, _⟩ | h
  · exact .inl (.inr ⟨o, h⟩)
  · exact h H
theorem CalAt.next {K : PySem.W.Frag} {CS CG : Addr} {A A' : Ad} {H H' : Hp} {s : Sm03.St} {a : Addr} {xs : List V} (h : CalAt K A H a xs) (hS : SAt CS CG A H s) (ek : A'.k = A.k) (out : ∀ b o, H b = some o → A.Out b → A'.Out b) (k : KpU A H H') : CalAt K A' H' a xs := by
  rcases h with ⟨o, h, ho, hk⟩ | h
  · obtain ⟨dx, h1⟩ := hS.ins
    exact .inl ⟨o, k _ _ h ho hk (ne_of h h1 (by intro z; cases z)), out _ _ h ho, by rw [ek]; exact hk⟩
  · exact .inr h
theorem CalAt.upd {K : PySem.W.Frag} {A : Ad} {H : Hp} {a p : Addr} {xs ys : List V} {o : HO} (h : CalAt K A H a xs) (hp : H p = some (.lst ys)) : CalAt K A (upd H p o) a xs := by
  rcases h with ⟨o, h, ho, hk⟩ | h
  · exact .inl ⟨o, by rw [upd_ne (ne_of h hp (by intro z; cases z))]; exact h, ho, hk⟩
  · exact .inr h
theorem CalAt.same {K : PySem.W.Frag} {A : Ad} {H H' : Hp} {a : Addr} {xs : List V} (h : CalAt K A H a xs) (s : Same H H') : CalAt K A H' a xs := by
  rcases h with ⟨o, h, ho, hk⟩ | h
  · exact .inl ⟨o, s _ _ h, ho, hk⟩
  · exact .inr h
/-! ### the row's own promise -/
def spAns (K : PySem.W.Frag) : Sp := fun vs H Q _ => ∃ (a : Addr) (ns : List Int), vs = [.ref a] ∧ SqL K H a (ns.map V.int) ∧ OnlyF H ∧ BS.Small ns ∧ ns.length ≤ 31000 ∧ PySm03.answers_asked ns = true ∧
  ∀ (H' : Hp) (p : Addr), H' p = some (.lst ((PySm03.answers ns).map V.int)) → Q (.ref p) H'
/-- behind some calls: what is left, what was told -/
structure Lp (K : PySem.W.Frag) (CS CG : Addr) (a : Addr) (ns : List Int) (m : Nat) (A : Ad) (s : Sm03.St) (to : Addr) (pre l out acc : List Int) (H : Hp) : Prop where
  len : m = l.length
  eq : ns = pre ++ l
  run : BS.Run l s out
  all : PySm03.answers ns = acc ++ out
  st : SAt CS CG A H s
  cal : CalAt K A H a (ns.map V.int)
  told : H to = some (.lst (acc.map V.int))
  out : A.Out to
  k : to ≠ A.k
  nw : NW A H to
theorem in_rows (p : Nat) (hp : p ≤ 22) : inV (.int (p : Int)) (lits [21, 22]) = decide (21 ≤ p) := by
  show (((21 : Int) == (p : Int)) || (((22 : Int) == (p : Int)) || false)) = _
  rw [Bool.or_false, Bool.eq_iff_iff, Bool.or_eq_true, beq_iff_eq, beq_iff_eq, decide_eq_true_iff]
  omega
theorem run_inv {l : List Int} {s : Sm03.St} {out : List Int} (h : BS.Run l s out) : (l = [] ∧ out = []) ∨ ∃ (p : Nat) (nums row : List Nat) (x : Sm03.Call) (t out' : List Int), BS.One l p nums row x t ∧ BS.Run t (Sm03.step s x).1 out' ∧ out = (((Sm03.step s x).2.length : Nat) : Int) :: (Sm03.step s x).2 ++ out' := by
  cases h with
  | nil => exact .inl ⟨rfl, rfl⟩
  | cons o r => exact .inr ⟨_, _, _, _, _, _, o, r, rfl⟩
end BC

set_option Elab.async false
set_option linter.all false
set_option maxRecDepth 100000
set_option maxHeartbeats 2000000
namespace BC
open PySem PySem.Spec PyProof.Rows L2
section
variable {P : Program} {w : World} {K : PySem.W.Frag} {mg : Str → Option Value} {base : Heap} {CG CS CW : Addr} {f : Addr} {fd : FuncData}
abbrev s_answer_of_call : Stmt := top 115
abbrev N_answer_of_call : List Str := ["state", "call", "numbers", "keeper"]
theorem sc_answer_of_call : FnScope N_answer_of_call ["state", "call", "numbers"] (defScope s_answer_of_call) := ⟨rfl, rfl, rfl, by decide +kernel, rfl, by decide +kernel, by decide +kernel⟩
theorem ok_answer_of_call (F : Fun K "answer_of_call" "answer_of_call" s_answer_of_call f fd) {a_KEEPERS : Addr} (g_CLAIM_CALL : GI mg "CLAIM_CALL" 10) (D_answer_of_term : DF P w K mg base 11 "answer_of_term" (spTerm CS CG)) (g_DECIDE_CALL : GI mg "DECIDE_CALL" 13) (m_KEEPERS : mg "KEEPERS" = some (.ref a_KEEPERS)) (g_BITS_CALL : GI mg "BITS_CALL" 17) (D_answer_of_asking : DF P w K mg base 7 "answer_of_asking" (spAsking CS CG)) (g_VALUE_CALL : GI mg "VALUE_CALL" 22) (D_answer_of_showing : DF P w K mg base 5 "answer_of_showing" (spShowing CS CG)) (D_answer_of_value : DF P w K mg base 6 "answer_of_value" (spValue CS CG)) {rm : List V} (kM : TupK K a_KEEPERS rm) (hM : ∀ c, c < 3 → ∃ f sp, rm[c]? = some (.ref f) ∧ Hld P w K mg base 3 f sp ∧ ∀ vs H Q E, spKeep CS CG c vs H Q E → sp vs H Q E) : FnOk P w K mg base CX0 12 f fd ["state", "call", "numbers"] (spCall CS CG) := by
  refine F.ok sc_answer_of_call (fun vs H Q E h => ?_) (fun cdv A outer s H vs Q E hr h => ?_)
  · obtain ⟨_, _, _, _, _, _, _, rfl, _⟩ := h
    rfl
  · obtain ⟨A, s, c, nn, nums, row, x, rfl, hS, hn, hno, hc, hr0, hrl, hx, q⟩ := h
    have hu := hu_of hr
    refine ⟨_, (pss_cons (ps_if (pt_cmpR op_lt (pv 1) (pe_gi g_CLAIM_CALL) (nomark _))
      (pss_one (ps_ret (pe_df D_answer_of_term hr (pa_cons (pv 0) (pa_cons (pv 1) (pa_cons (pv 2) pa_nil))))))
      pss_nil)
      (pss_cons (ps_if (pt_cmpR op_lt (pv 1) (pe_gi g_DECIDE_CALL) (nomark _))
      (pss_cons (ps_set (i := 3) sc_answer_of_call.nd rfl (Or.inl rfl) (pe_ix ix_tup (pe_gr m_KEEPERS) (pe_op op_sub (pv 1) (pe_gi g_CLAIM_CALL)) (fun _ _ => rfl)))
      (pss_one (ps_ret (pe_callD (k := 3) (i := 3) (hr.mono (by decide)) rfl (pa_cons (pv 0) (pa_cons (pv 2) pa_nil))))))
      pss_nil)
      (pss_cons (ps_if (pt_cmpR op_lt (pv 1) (pe_gi g_BITS_CALL) (nomark _))
      (pss_one (ps_ret (pe_df D_answer_of_asking (hr.mono (by decide)) (pa_cons (pv 0) (pa_cons (pe_op op_sub (pv 1) (pe_gi g_DECIDE_CALL)) (pa_cons (pv 2) pa_nil))))))
      pss_nil)
      (pss_cons (ps_if (pt_cmpR op_lt (pv 1) (pe_gi g_VALUE_CALL) (nomark _))
      (pss_one (ps_ret (pe_df D_answer_of_showing (hr.mono (by decide)) (pa_cons (pv 0) (pa_cons (pe_op op_sub (pv 1) (pe_gi g_BITS_CALL)) (pa_cons (pv 2) pa_nil))))))
      pss_nil)
      (pss_one (ps_ret (pe_df D_answer_of_value (hr.mono (by decide)) (pa_cons (pv 0) (pa_cons (pv 2) pa_nil))))))))), ?_⟩
    refine ⟨_, rfl, _, _, rfl, rfl, _, rfl, ?_⟩
    by_cases c1 : c < 10
    · refine if_true_of (decide_eq_true (by omega)) ?_
      have e := hr0 (by omega)
      subst e
      rw [List.append_nil] at hn
      obtain ⟨t, ht, rfl⟩ := call_tm c1 hx
      exact ⟨_, rfl, _, rfl, _, rfl, A, s, c, nn, nums, t, rfl, hS, hn, hno, ht, q.ansd⟩
    refine if_false_of (decide_eq_false (by omega)) ?_
    refine ⟨_, rfl, _, _, rfl, rfl, _, rfl, ?_⟩
    by_cases c2 : c < 13
    · refine if_true_of (decide_eq_true (by omega)) ?_
      have e := hr0 (by omega)
      subst e
      rw [List.append_nil] at hn
      obtain ⟨d, rfl⟩ : ∃ d, c = 10 + d := ⟨c - 10, by omega⟩
      obtain ⟨fm, sm, hm1, hm2, hm3⟩ := hM d (by omega)
      refine ⟨_, rfl, _, _, rfl, rfl, a_KEEPERS, _, _, .ref fm, rfl, rfl, kM _, ?_, ?_⟩
      · rw [show ((10 + d : Nat) : Int) - 10 = (d : Int) by omega]
        exact atI_nat hm1
      exact ⟨fm, sm, rfl, hm2, _, rfl, _, rfl, hm3 _ _ _ _ ⟨A, s, nn, nums, x, rfl, hS, hn, hx, q⟩⟩
    refine if_false_of (decide_eq_false (by omega)) ?_
    refine ⟨_, rfl, _, _, rfl, rfl, _, rfl, ?_⟩
    by_cases c3 : c < 17
    · refine if_true_of (decide_eq_true (by omega)) ?_
      have e := hr0 (by omega)
      subst e
      rw [List.append_nil] at hn
      obtain ⟨d, rfl⟩ : ∃ d, c = 13 + d := ⟨c - 13, by omega⟩
      refine ⟨_, rfl, _, rfl, _, _, rfl, rfl, _, rfl, A, s, d, nn, nums, x, ?_, hS, by omega, hn, hx, q.ansd⟩
      dsimp only
      rw [show ((13 + d : Nat) : Int) - 13 = (d : Int) by omega]
      rfl
    refine if_false_of (decide_eq_false (by omega)) ?_
    refine ⟨_, rfl, _, _, rfl, rfl, _, rfl, ?_⟩
    by_cases c4 : c < 22
    · refine if_true_of (decide_eq_true (by omega)) ?_
      obtain ⟨d, rfl⟩ : ∃ d, c = 17 + d := ⟨c - 17, by omega⟩
      refine ⟨_, rfl, _, rfl, _, _, rfl, rfl, _, rfl, A, s, d, nn, nums, row, x, ?_, hS, by omega, hn, fun h => hr0 (by omega), hrl, hx, q.ansd⟩
      dsimp only
      rw [show ((17 + d : Nat) : Int) - 17 = (d : Int) by omega]
      rfl
    refine if_false_of (decide_eq_false (by omega)) ?_
    have e : c = 22 := by omega
    subst e
    obtain ⟨t, rfl, rfl⟩ := call22 hx
    exact ⟨_, rfl, _, rfl, A, s, nn, t, row, rfl, hS, hn, q.ansd⟩

abbrev s_answers : Stmt := top 116
abbrev N_answers : List Str := ["calls", "state", "told", "place", "call", "end", "numbers", "start", "answer"]
theorem sc_answers : FnScope N_answers ["calls"] (defScope s_answers) := ⟨rfl, rfl, rfl, by decide +kernel, rfl, by decide +kernel, by decide +kernel⟩
theorem ok_answers (F : Fun K "answers" "answers" s_answers f fd) {a_SIZES : Addr} {a_ROW_CALLS : Addr} (M_State : DK P w K mg base CS 3 "State" (spSInit CS CG)) (b_len : mg "len" = none) (m_SIZES : mg "SIZES" = some (.ref a_SIZES)) (m_ROW_CALLS : mg "ROW_CALLS" = some (.ref a_ROW_CALLS)) (D_answer_of_call : DF P w K mg base 12 "answer_of_call" (spCall CS CG)) (kS : TupI K a_SIZES [1, 2, 1, 1, 3, 2, 3, 2, 2, 3, 1, 0, 0, 0, 2, 1, 0, 1, 1, 0, 0, 0, 1]) (kR : TupI K a_ROW_CALLS [21, 22]) : FnOk P w K mg base CX0 13 f fd ["calls"] (spAns K) := by
  refine F.ok sc_answers (fun vs H Q E h => ?_) (fun cdv A outer s H vs Q E hr h => ?_)
  · obtain ⟨_, _, rfl, _⟩ := h
    rfl
  · obtain ⟨a, ns, rfl, hs, hO, hsm, hnl, hask, q⟩ := h
    obtain ⟨hrun, hal⟩ := BS.run_answers hask hsm
    have hu := hu_of hr
    refine ⟨_, (pss_cons (ps_set (i := 1) sc_answers.nd rfl (Or.inl rfl) (pe_dk0 M_State (hr.mono (by decide))))
      (pss_cons (ps_set (i := 2) sc_answers.nd rfl (Or.inl rfl) (pe_lst pa_nil))
      (pss_cons (ps_set (i := 3) sc_answers.nd rfl (Or.inl rfl) pe_int)
      (pss_cons (ps_while PassesOwn.never (pt_cmpR op_lt (pv 3) (pe_callB call_len_seq (by rfl) b_len PySem.boot_len (pa_cons (pv 0) pa_nil)) (nomark _))
      (pss_cons (ps_set (i := 4) sc_answers.nd rfl (Or.inl rfl) (pe_ix ix_list (pv 0) (pv 3) (fun _ _ => rfl)))
      (pss_cons (ps_set (i := 5) sc_answers.nd rfl (Or.inl rfl) (pe_op op_add (pe_op op_add (pv 3) pe_int) (pe_ix ix_tup (pe_gr m_SIZES) (pv 4) (fun _ _ => rfl))))
      (pss_cons (ps_set (i := 6) sc_answers.nd rfl (Or.inl rfl) (pe_slice sl_list (pv 0) (po_some (pe_op op_add (pv 3) pe_int)) (po_some (pv 5))))
      (pss_cons (ps_if (pt_cmpR op_in_seq (pv 4) (pe_gr m_ROW_CALLS) rfl)
      (pss_cons (ps_set (i := 7) sc_answers.nd rfl (Or.inl rfl) (pe_op op_add (pv 5) pe_int))
      (pss_cons (ps_set (i := 5) sc_answers.nd rfl (Or.inl rfl) (pe_op op_add (pv 7) (pe_ix ix_list (pv 0) (pv 5) (fun _ _ => rfl))))
      (pss_one (ps_set (i := 6) sc_answers.nd rfl (Or.inl rfl) (pe_op op_cat (pv 6) (pe_slice sl_list (pv 0) (po_some (pv 7)) (po_some (pv 5))))))))
      pss_nil)
      (pss_cons (ps_set (i := 8) sc_answers.nd rfl (Or.inl rfl) (pe_df D_answer_of_call hr (pa_cons (pv 1) (pa_cons (pv 4) (pa_cons (pv 6) pa_nil)))))
      (pss_cons (ps_expr (pe_bm PySem.F.plainAttrs_list PySem.F.slot_list_append PySem.F.type_list_append mt_append (pv 2) (pa_cons (pe_callB call_len_seq (by rfl) b_len PySem.boot_len (pa_cons (pv 8) pa_nil)) pa_nil)))
      (pss_cons (ps_expr (pe_bm PySem.F.plainAttrs_list PySem.F.slot_list_extend PySem.F.type_list_extend mt_extend (pv 2) (pa_cons (pv 8) pa_nil)))
      (pss_one (ps_set (i := 3) sc_answers.nd rfl (Or.inl rfl) (pv 5)))))))))))
      (pss_one (ps_ret (pv 2))))))), ?_⟩
    have hL2 : 10000000 < sizeLine := by decide
    refine fun sa ds hsa hds hne => ⟨sa, ds, rfl, upd_same, fun H1 A eA hS hout hkeep => ⟨rfl, ?_⟩⟩
    have s1 : Same H H1 := made_same hkeep hsa hds
    have hcal : CalAt K A H1 a (ns.map V.int) := by
      rcases hs with (hs | ⟨o, hs⟩) | hs
      · rcases hO a with h | ⟨o, u, h⟩
        · rw [h] at hs; cases hs
        · rw [h] at hs; cases hs
      · have e0 : (upd (upd H ds (.own sa)) sa (.ins CS ds [])) a = some (.frz o (.lst (ns.map V.int))) := by rw [upd_ne (ne_of_none hs hsa), upd_ne (ne_of_none hs hds)]; exact hs
        obtain ⟨o1, o2⟩ := hout a _ e0 (ne_of_none hs hsa)
        exact .inl ⟨o, s1 _ _ hs, o1, o2⟩
      · exact .inr fun H' => .inr hs
    refine ⟨Nat.zero_le _, fun to hto => ?_⟩
    have s2 := same_upd (o := .lst []) hto
    obtain ⟨rs0, t0, _⟩ := hS.terms
    have lp0 : Lp K CS CG a ns ns.length A Sm03.init to [] ns (PySm03.answers ns) [] (upd H1 to (.lst [])) := ⟨rfl, rfl, hrun, rfl, hS.same s2, hcal.same s2, upd_same, hS.freshOut hto, hS.gat.fresh_k hto, (hS.nw hto).same t0 (s2 _ _ t0)⟩
    subst eA
    generalize upd H1 to (.lst []) = H2 at lp0 ⊢
    refine ⟨fun m σ H3 => ∃ (A : Ad) (s : Sm03.St) (pre l out acc : List Int) (v4 v5 v6 v7 v8 : Option V), σ = [some (.ref a), some (.ref A.sa), some (.ref to), some (.int (pre.length : Int)), v4, v5, v6, v7, v8] ∧ Lp K CS CG a ns m A s to pre l out acc H3, ⟨_, A, _, [], _, _, _, none, none, none, none, none, rfl, lp0⟩, ?_⟩
    clear lp0
    rintro m σ H3 ⟨A, s, pre, l, out, acc, v4, v5, v6, v7, v8, rfl, L⟩
    refine ⟨_, rfl, _, rfl, a, _, rfl, .inl L.cal.sq, _, _, rfl, rfl, _, rfl, ?_⟩
    rcases run_inv L.run with ⟨e1, e2⟩ | ⟨p, nums, row, x, t, out1, o, r, eo⟩
    · refine if_false_of (decide_eq_false ?_) ⟨_, rfl, q H3 to ?_⟩
      · rw [List.length_map, L.eq, e1, List.append_nil]
        omega
      · rw [L.all, e2, List.append_nil]
        exact L.told
    have hlen := L.len
    have ens : ns = pre ++ ((p : Int) :: (BS.cs nums ++ (BS.putRow p row ++ t))) := by rw [L.eq, o.eq]
    have ll := congrArg List.length o.eq
    rw [List.length_cons, List.length_append, List.length_append] at ll
    have la := congrArg List.length L.all
    rw [eo, List.length_append, List.cons_append, List.length_cons, List.length_append] at la
    obtain ⟨rs3, pt3, _⟩ := L.st.terms
    refine if_true_of (decide_eq_true ?_) ⟨fun σ' H' => ∃ (A : Ad) (s : Sm03.St) (pre l out acc : List Int) (v4 v5 v6 v7 v8 : Option V), σ' = [some (.ref a), some (.ref A.sa), some (.ref to), some (.int (pre.length : Int)), v4, v5, v6, v7, v8] ∧ Lp K CS CG a ns t.length A s to pre l out acc H', fun σ' H' h => ⟨t.length, by omega, h⟩, ?_⟩
    · rw [List.length_map, L.eq, List.length_append]
      omega
    have a1 : (ns.map V.int)[pre.length]? = some (.int (p : Int)) := by rw [ens]; exact at_pre
    refine ⟨_, rfl, _, rfl, a, _, _, _, rfl, rfl, L.cal.sq, atI_nat a1, ?_⟩
    refine ⟨_, rfl, _, _, rfl, rfl, _, rfl, a_SIZES, _, _, _, rfl, rfl, kS.tup _, atI_nat (at_lits (sizes_few p (by have := o.le; omega))), _, _, rfl, rfl, ?_⟩
    dsimp only
    rw [← o.nl, show (pre.length : Int) + 1 + (nums.length : Int) = ((pre.length + 1 + nums.length : Nat) : Int) by omega]
    refine ⟨_, rfl, _, rfl, _, _, rfl, rfl, _, rfl, _, rfl, _, rfl, a, _, rfl, L.cal.sq, fun nb hnb => ?_⟩
    have ec1 : cutV (ns.map V.int) (some ((pre.length : Int) + 1)) (some ((pre.length + 1 + nums.length : Nat) : Int)) = lits nums := by
      have := cut_pre (pre := pre ++ [(p : Int)]) (rest := BS.putRow p row ++ t) (ws := nums) (lo := pre.length + 1) (by rw [List.length_append]; rfl)
      rw [List.append_assoc] at this
      rw [ens]
      exact this
    rw [ec1]
    have s4 := same_upd (o := .lst (lits nums)) hnb
    have e4 : (upd H3 nb (.lst (lits nums))) nb = some (.lst (lits nums)) := upd_same
    generalize upd H3 nb (.lst (lits nums)) = H4 at s4 e4 ⊢
    have cal4 := L.cal.same s4
    refine ⟨_, rfl, a_ROW_CALLS, _, rfl, .inr (kR.tup _), rfl, rfl, _, rfl, ?_⟩
    rw [if_neg Bool.false_ne_true, in_rows p o.le]
    by_cases c21 : 21 ≤ p
    · refine if_true_of (decide_eq_true c21) ?_
      have epr : BS.putRow p row = ((row.length : Nat) : Int) :: BS.cs row := by unfold BS.putRow; rw [if_pos c21]
      rw [epr] at ens ll
      refine ⟨_, rfl, _, _, rfl, rfl, ?_⟩
      have a2 : (ns.map V.int)[pre.length + 1 + nums.length]? = some (.int ((row.length : Nat) : Int)) := by
        have := at_pre (pre := pre ++ ((p : Int) :: BS.cs nums)) (p := ((row.length : Nat) : Int)) (rest := BS.cs row ++ t)
        rw [List.length_append, List.length_cons, cs_len, show pre.length + (nums.length + 1) = pre.length + 1 + nums.length by omega, List.append_assoc] at this
        rw [ens]
        exact this
      refine ⟨_, rfl, _, rfl, _, rfl, a, _, _, _, rfl, rfl, cal4.sq, atI_nat a2, _, _, rfl, rfl, ?_⟩
      dsimp only
      rw [show ((pre.length + 1 + nums.length : Nat) : Int) + 1 = ((pre.length + 1 + nums.length + 1 : Nat) : Int) by omega, show ((pre.length + 1 + nums.length + 1 : Nat) : Int) + (row.length : Int) = ((pre.length + 1 + nums.length + 1 + row.length : Nat) : Int) by omega]
      refine ⟨_, rfl, _, rfl, _, rfl, _, rfl, _, rfl, _, rfl, a, _, rfl, cal4.sq, fun nc hnc => ?_⟩
      have ec2 : cutV (ns.map V.int) (some ((pre.length + 1 + nums.length + 1 : Nat) : Int)) (some ((pre.length + 1 + nums.length + 1 + row.length : Nat) : Int)) = lits row := by
        have := cut_pre (pre := pre ++ ((p : Int) :: (BS.cs nums ++ [((row.length : Nat) : Int)]))) (rest := t) (ws := row) (lo := pre.length + 1 + nums.length + 1) (by rw [List.length_append, List.length_cons, List.length_append, cs_len]; show _ = pre.length + (nums.length + 1 + 1); omega)
        rw [List.append_assoc, List.cons_append, List.append_assoc] at this
        rw [ens]
        exact this
      rw [ec2]
      have nbc : nb ≠ nc := ne_of_none e4 hnc
      refine ⟨nb, nc, _, _, rfl, rfl, by rw [upd_ne nbc]; exact e4, upd_same, ?_, fun nd hnd => ?_⟩
      · rw [lits_len, lits_len]
        have := o.rl
        have : nums.length ≤ 31000 := by rw [cs_len] at ll; have := congrArg List.length L.eq; rw [List.length_append] at this; omega
        omega
      rw [← lits_app]
      have s5 : Same H3 (upd (upd H4 nc (.lst (lits row))) nd (.lst (lits (nums ++ row)))) := s4.trans ((same_upd hnc).trans (same_upd hnd))
      have e5 : (upd (upd H4 nc (.lst (lits row))) nd (.lst (lits (nums ++ row)))) nd = some (.lst (lits (nums ++ row))) := upd_same
      have hnd0 : H3 nd = none := s4.free (free_upd hnd).1
      generalize upd (upd H4 nc (.lst (lits row))) nd (.lst (lits (nums ++ row))) = H5 at s5 e5 ⊢
      have ens2 : ns = (pre ++ ((p : Int) :: (BS.cs nums ++ (((row.length : Nat) : Int) :: BS.cs row)))) ++ t := by
        rw [ens]
        simp only [List.append_assoc, List.cons_append]
      have plen : ((pre ++ ((p : Int) :: (BS.cs nums ++ (((row.length : Nat) : Int) :: BS.cs row)))).length : Int) = ((pre.length + 1 + nums.length + 1 + row.length : Nat) : Int) := by
        rw [List.length_append, List.length_cons, List.length_append, List.length_cons, cs_len, cs_len]
        omega
      have hS5 := L.st.same s5
      have to5 := s5 _ _ L.told
      have cal5 := L.cal.same s5
      obtain ⟨dx5, h15⟩ := hS5.ins
      refine ⟨_, rfl, _, rfl, _, rfl, A, s, p, nd, nums, row, x, rfl, hS5, e5, L.st.freshOut hnd0, o.le, (fun h => by omega), o.rl, o.x, fun A' ap H' eA ek ou hS' kp wk hp e => ?_⟩
      have to' : H' to = some (.lst (acc.map V.int)) := kp _ _ to5 L.out L.k (ne_of to5 h15 (by intro z; cases z))
      have out' := ou _ _ to5 L.out
      have k' : to ≠ A'.k := by rw [ek]; exact L.k
      have nw' := wk _ _ to5 (L.nw.same pt3 (s5 _ _ pt3))
      have cal' := cal5.next hS5 ek ou kp
      have apto : ap ≠ to := (ne_of_none to5 hp).symm
      refine ⟨_, rfl, .inl ⟨rfl, _, .inl (.inl to')⟩, _, rfl, ap, _, rfl, .inl (.inl (.inl e)), to, _, _, rfl, rfl, to', ?_, ?_⟩
      · rw [List.length_map]; omega
      refine ⟨_, rfl, .inl ⟨rfl, _, .inl (.inl upd_same)⟩, _, rfl, to, ap, _, _, rfl, rfl, upd_same, (by rw [upd_ne apto]; exact e), ?_, ?_⟩
      · rw [List.length_append, List.length_map, List.length_map]
        show acc.length + 1 + _ ≤ _
        omega
      rw [upd_upd]
      obtain ⟨rs', pt', _⟩ := hS'.terms
      refine ⟨_, rfl, A', (Sm03.step s x).1, (pre ++ ((p : Int) :: (BS.cs nums ++ (((row.length : Nat) : Int) :: BS.cs row)))), t, out1, acc ++ ((((Sm03.step s x).2.length : Nat) : Int) :: (Sm03.step s x).2), some (.int (p : Int)), some (.int ((pre.length + 1 + nums.length + 1 + row.length : Nat) : Int)), some (.ref nd), some (.int ((pre.length + 1 + nums.length + 1 : Nat) : Int)), some (.ref ap), ?_, ⟨rfl, ens2, r, ?_, hS'.beside to' out' k' nw', cal'.upd to', ?_, out', k', nw'.same pt' (by rw [upd_ne out'.pt.symm]; exact pt')⟩⟩
      · rw [eA, plen]
        rfl
      · rw [L.all, eo, List.append_assoc]
      · rw [upd_same, List.map_append, List.length_map, List.append_assoc]
        rfl
    · refine if_false_of (decide_eq_false c21) ?_
      have epr : BS.putRow p row = [] := by unfold BS.putRow; rw [if_neg c21]
      rw [epr, List.nil_append] at ens
      have s5 := s4
      have e5 : H4 nb = some (.lst (lits (nums ++ []))) := by rw [List.append_nil]; exact e4
      have ens2 : ns = (pre ++ ((p : Int) :: BS.cs nums)) ++ t := by
        rw [ens]
        simp only [List.append_assoc, List.cons_append]
      have plen : ((pre ++ ((p : Int) :: BS.cs nums)).length : Int) = ((pre.length + 1 + nums.length : Nat) : Int) := by
        rw [List.length_append, List.length_cons, cs_len]
        omega
      have hS5 := L.st.same s5
      have to5 := s5 _ _ L.told
      have cal5 := L.cal.same s5
      obtain ⟨dx5, h15⟩ := hS5.ins
      refine ⟨_, rfl, _, rfl, _, rfl, A, s, p, nb, nums, [], x, rfl, hS5, e5, L.st.freshOut hnb, o.le, (fun _ => rfl), (Nat.zero_le _), (call_row (by omega) o.x), fun A' ap H' eA ek ou hS' kp wk hp e => ?_⟩
      have to' : H' to = some (.lst (acc.map V.int)) := kp _ _ to5 L.out L.k (ne_of to5 h15 (by intro z; cases z))
      have out' := ou _ _ to5 L.out
      have k' : to ≠ A'.k := by rw [ek]; exact L.k
      have nw' := wk _ _ to5 (L.nw.same pt3 (s5 _ _ pt3))
      have cal' := cal5.next hS5 ek ou kp
      have apto : ap ≠ to := (ne_of_none to5 hp).symm
      refine ⟨_, rfl, .inl ⟨rfl, _, .inl (.inl to')⟩, _, rfl, ap, _, rfl, .inl (.inl (.inl e)), to, _, _, rfl, rfl, to', ?_, ?_⟩
      · rw [List.length_map]; omega
      refine ⟨_, rfl, .inl ⟨rfl, _, .inl (.inl upd_same)⟩, _, rfl, to, ap, _, _, rfl, rfl, upd_same, (by rw [upd_ne apto]; exact e), ?_, ?_⟩
      · rw [List.length_append, List.length_map, List.length_map]
        show acc.length + 1 + _ ≤ _
        omega
      rw [upd_upd]
      obtain ⟨rs', pt', _⟩ := hS'.terms
      refine ⟨_, rfl, A', (Sm03.step s x).1, (pre ++ ((p : Int) :: BS.cs nums)), t, out1, acc ++ ((((Sm03.step s x).2.length : Nat) : Int) :: (Sm03.step s x).2), some (.int (p : Int)), some (.int ((pre.length + 1 + nums.length : Nat) : Int)), some (.ref nb), v7, some (.ref ap), ?_, ⟨rfl, ens2, r, ?_, hS'.beside to' out' k' nw', cal'.upd to', ?_, out', k', nw'.same pt' (by rw [upd_ne out'.pt.symm]; exact pt')⟩⟩
      · rw [eA, plen]
        rfl
      · rw [L.all, eo, List.append_assoc]
      · rw [upd_same, List.map_append, List.length_map, List.append_assoc]
        rfl
end
end BC

set_option Elab.async false
set_option linter.all false
set_option maxRecDepth 100000
set_option maxHeartbeats 8000000
namespace BC
open PySem PySem.Spec PyProof.Rows L2
theorem bn_opposite {K : PySem.W.Frag} {f : Addr} {fd : FuncData} (F : Fun K "opposite" "opposite" s_opposite f fd) : Binds K fd ["x"] [] := F.binds fun _ _ _ _ _ _ us hl => match us, hl with | [_], _ => rfl
theorem bn_Gates_size {K : PySem.W.Frag} {f : Addr} {fd : FuncData} (F : Fun K "size" "Gates.size" s_Gates_size f fd) : Binds K fd ["self"] [] := F.binds fun _ _ _ _ _ _ us hl => match us, hl with | [_], _ => rfl
theorem bn_Gates_fresh {K : PySem.W.Frag} {f : Addr} {fd : FuncData} (F : Fun K "fresh" "Gates.fresh" s_Gates_fresh f fd) : Binds K fd ["self"] [] := F.binds fun _ _ _ _ _ _ us hl => match us, hl with | [_], _ => rfl
theorem bn_Gates_gate {K : PySem.W.Frag} {f : Addr} {fd : FuncData} (F : Fun K "gate" "Gates.gate" s_Gates_gate f fd) : Binds K fd ["self", "low", "high"] [] := F.binds fun _ _ _ _ _ _ us hl => match us, hl with | [_, _, _], _ => rfl
theorem bn_Gates_both {K : PySem.W.Frag} {f : Addr} {fd : FuncData} (F : Fun K "both" "Gates.both" s_Gates_both f fd) : Binds K fd ["self", "x", "y"] [] := F.binds fun _ _ _ _ _ _ us hl => match us, hl with | [_, _, _], _ => rfl
theorem bn_Gates_either {K : PySem.W.Frag} {f : Addr} {fd : FuncData} (F : Fun K "either" "Gates.either" s_Gates_either f fd) : Binds K fd ["self", "x", "y"] [] := F.binds fun _ _ _ _ _ _ us hl => match us, hl with | [_, _, _], _ => rfl
theorem bn_Gates_odd {K : PySem.W.Frag} {f : Addr} {fd : FuncData} (F : Fun K "odd" "Gates.odd" s_Gates_odd f fd) : Binds K fd ["self", "x", "y"] [] := F.binds fun _ _ _ _ _ _ us hl => match us, hl with | [_, _, _], _ => rfl
theorem bn_Gates_chosen {K : PySem.W.Frag} {f : Addr} {fd : FuncData} (F : Fun K "chosen" "Gates.chosen" s_Gates_chosen f fd) : Binds K fd ["self", "c", "x", "y"] [] := F.binds fun _ _ _ _ _ _ us hl => match us, hl with | [_, _, _, _], _ => rfl
theorem bn_zeros {K : PySem.W.Frag} {f : Addr} {fd : FuncData} (F : Fun K "zeros" "zeros" s_zeros f fd) : Binds K fd ["width"] [] := F.binds fun _ _ _ _ _ _ us hl => match us, hl with | [_], _ => rfl
theorem bn_opposites {K : PySem.W.Frag} {f : Addr} {fd : FuncData} (F : Fun K "opposites" "opposites" s_opposites f fd) : Binds K fd ["word"] [] := F.binds fun _ _ _ _ _ _ us hl => match us, hl with | [_], _ => rfl
theorem bn_chosen_word {K : PySem.W.Frag} {f : Addr} {fd : FuncData} (F : Fun K "chosen_word" "chosen_word" s_chosen_word f fd) : Binds K fd ["gates", "c", "a", "b"] [] := F.binds fun _ _ _ _ _ _ us hl => match us, hl with | [_, _, _, _], _ => rfl
theorem bn_word_and {K : PySem.W.Frag} {f : Addr} {fd : FuncData} (F : Fun K "word_and" "word_and" s_word_and f fd) : Binds K fd ["gates", "a", "b"] [] := F.binds fun _ _ _ _ _ _ us hl => match us, hl with | [_, _, _], _ => rfl
theorem bn_word_or {K : PySem.W.Frag} {f : Addr} {fd : FuncData} (F : Fun K "word_or" "word_or" s_word_or f fd) : Binds K fd ["gates", "a", "b"] [] := F.binds fun _ _ _ _ _ _ us hl => match us, hl with | [_, _, _], _ => rfl
theorem bn_word_xor {K : PySem.W.Frag} {f : Addr} {fd : FuncData} (F : Fun K "word_xor" "word_xor" s_word_xor f fd) : Binds K fd ["gates", "a", "b"] [] := F.binds fun _ _ _ _ _ _ us hl => match us, hl with | [_, _, _], _ => rfl
theorem bn_added {K : PySem.W.Frag} {f : Addr} {fd : FuncData} (F : Fun K "added" "added" s_added f fd) : Binds K fd ["gates", "a", "b", "carry"] [] := F.binds fun _ _ _ _ _ _ us hl => match us, hl with | [_, _, _, _], _ => rfl
theorem bn_taken {K : PySem.W.Frag} {f : Addr} {fd : FuncData} (F : Fun K "taken" "taken" s_taken f fd) : Binds K fd ["gates", "a", "b"] [] := F.binds fun _ _ _ _ _ _ us hl => match us, hl with | [_, _, _], _ => rfl
theorem bn_word_neg {K : PySem.W.Frag} {f : Addr} {fd : FuncData} (F : Fun K "word_neg" "word_neg" s_word_neg f fd) : Binds K fd ["gates", "a"] [] := F.binds fun _ _ _ _ _ _ us hl => match us, hl with | [_, _], _ => rfl
theorem bn_word_add {K : PySem.W.Frag} {f : Addr} {fd : FuncData} (F : Fun K "word_add" "word_add" s_word_add f fd) : Binds K fd ["gates", "a", "b"] [] := F.binds fun _ _ _ _ _ _ us hl => match us, hl with | [_, _, _], _ => rfl
theorem bn_word_sub {K : PySem.W.Frag} {f : Addr} {fd : FuncData} (F : Fun K "word_sub" "word_sub" s_word_sub f fd) : Binds K fd ["gates", "a", "b"] [] := F.binds fun _ _ _ _ _ _ us hl => match us, hl with | [_, _, _], _ => rfl
theorem bn_moved_up {K : PySem.W.Frag} {f : Addr} {fd : FuncData} (F : Fun K "moved_up" "moved_up" s_moved_up f fd) : Binds K fd ["word", "step"] [] := F.binds fun _ _ _ _ _ _ us hl => match us, hl with | [_, _], _ => rfl
theorem bn_moved_down {K : PySem.W.Frag} {f : Addr} {fd : FuncData} (F : Fun K "moved_down" "moved_down" s_moved_down f fd) : Binds K fd ["word", "step", "fill"] [] := F.binds fun _ _ _ _ _ _ us hl => match us, hl with | [_, _, _], _ => rfl
theorem bn_word_shl {K : PySem.W.Frag} {f : Addr} {fd : FuncData} (F : Fun K "word_shl" "word_shl" s_word_shl f fd) : Binds K fd ["gates", "a", "b"] [] := F.binds fun _ _ _ _ _ _ us hl => match us, hl with | [_, _, _], _ => rfl
theorem bn_stepped_down {K : PySem.W.Frag} {f : Addr} {fd : FuncData} (F : Fun K "stepped_down" "stepped_down" s_stepped_down f fd) : Binds K fd ["gates", "a", "b", "with_sign"] [] := F.binds fun _ _ _ _ _ _ us hl => match us, hl with | [_, _, _, _], _ => rfl
theorem bn_word_shr {K : PySem.W.Frag} {f : Addr} {fd : FuncData} (F : Fun K "word_shr" "word_shr" s_word_shr f fd) : Binds K fd ["gates", "a", "b"] [] := F.binds fun _ _ _ _ _ _ us hl => match us, hl with | [_, _, _], _ => rfl
theorem bn_word_sar {K : PySem.W.Frag} {f : Addr} {fd : FuncData} (F : Fun K "word_sar" "word_sar" s_word_sar f fd) : Binds K fd ["gates", "a", "b"] [] := F.binds fun _ _ _ _ _ _ us hl => match us, hl with | [_, _, _], _ => rfl
theorem bn_word_eq {K : PySem.W.Frag} {f : Addr} {fd : FuncData} (F : Fun K "word_eq" "word_eq" s_word_eq f fd) : Binds K fd ["gates", "a", "b"] [] := F.binds fun _ _ _ _ _ _ us hl => match us, hl with | [_, _, _], _ => rfl
theorem bn_word_ult {K : PySem.W.Frag} {f : Addr} {fd : FuncData} (F : Fun K "word_ult" "word_ult" s_word_ult f fd) : Binds K fd ["gates", "a", "b"] [] := F.binds fun _ _ _ _ _ _ us hl => match us, hl with | [_, _, _], _ => rfl
theorem bn_sign_turned {K : PySem.W.Frag} {f : Addr} {fd : FuncData} (F : Fun K "sign_turned" "sign_turned" s_sign_turned f fd) : Binds K fd ["word"] [] := F.binds fun _ _ _ _ _ _ us hl => match us, hl with | [_], _ => rfl
theorem bn_word_slt {K : PySem.W.Frag} {f : Addr} {fd : FuncData} (F : Fun K "word_slt" "word_slt" s_word_slt f fd) : Binds K fd ["gates", "a", "b"] [] := F.binds fun _ _ _ _ _ _ us hl => match us, hl with | [_, _, _], _ => rfl
theorem bn_word_mul {K : PySem.W.Frag} {f : Addr} {fd : FuncData} (F : Fun K "word_mul" "word_mul" s_word_mul f fd) : Binds K fd ["gates", "a", "b"] [] := F.binds fun _ _ _ _ _ _ us hl => match us, hl with | [_, _, _], _ => rfl
theorem bn_divided {K : PySem.W.Frag} {f : Addr} {fd : FuncData} (F : Fun K "divided" "divided" s_divided f fd) : Binds K fd ["gates", "a", "b"] [] := F.binds fun _ _ _ _ _ _ us hl => match us, hl with | [_, _, _], _ => rfl
theorem bn_word_div {K : PySem.W.Frag} {f : Addr} {fd : FuncData} (F : Fun K "word_div" "word_div" s_word_div f fd) : Binds K fd ["gates", "a", "b"] [] := F.binds fun _ _ _ _ _ _ us hl => match us, hl with | [_, _, _], _ => rfl
theorem bn_word_rem {K : PySem.W.Frag} {f : Addr} {fd : FuncData} (F : Fun K "word_rem" "word_rem" s_word_rem f fd) : Binds K fd ["gates", "a", "b"] [] := F.binds fun _ _ _ _ _ _ us hl => match us, hl with | [_, _, _], _ => rfl
theorem bn_word_two {K : PySem.W.Frag} {f : Addr} {fd : FuncData} (F : Fun K "word_two" "word_two" s_word_two f fd) : Binds K fd ["gates", "which", "a", "b"] [] := F.binds fun _ _ _ _ _ _ us hl => match us, hl with | [_, _, _, _], _ => rfl
theorem bn_State_has {K : PySem.W.Frag} {f : Addr} {fd : FuncData} (F : Fun K "has" "State.has" s_State_has f fd) : Binds K fd ["self", "name"] [] := F.binds fun _ _ _ _ _ _ us hl => match us, hl with | [_, _], _ => rfl
theorem bn_State_width {K : PySem.W.Frag} {f : Addr} {fd : FuncData} (F : Fun K "width" "State.width" s_State_width f fd) : Binds K fd ["self", "name"] [] := F.binds fun _ _ _ _ _ _ us hl => match us, hl with | [_, _], _ => rfl
theorem bn_State_bits_of_inputs {K : PySem.W.Frag} {f : Addr} {fd : FuncData} (F : Fun K "bits_of_inputs" "State.bits_of_inputs" s_State_bits_of_inputs f fd) : Binds K fd ["self"] [] := F.binds fun _ _ _ _ _ _ us hl => match us, hl with | [_], _ => rfl
theorem bn_bad_width {K : PySem.W.Frag} {f : Addr} {fd : FuncData} (F : Fun K "bad_width" "bad_width" s_bad_width f fd) : Binds K fd ["w"] [] := F.binds fun _ _ _ _ _ _ us hl => match us, hl with | [_], _ => rfl
theorem bn_unfit_input {K : PySem.W.Frag} {f : Addr} {fd : FuncData} (F : Fun K "unfit_input" "unfit_input" s_unfit_input f fd) : Binds K fd ["state", "numbers"] [] := F.binds fun _ _ _ _ _ _ us hl => match us, hl with | [_, _], _ => rfl
theorem bn_unfit_const {K : PySem.W.Frag} {f : Addr} {fd : FuncData} (F : Fun K "unfit_const" "unfit_const" s_unfit_const f fd) : Binds K fd ["state", "numbers"] [] := F.binds fun _ _ _ _ _ _ us hl => match us, hl with | [_, _], _ => rfl
theorem bn_unfit_one {K : PySem.W.Frag} {f : Addr} {fd : FuncData} (F : Fun K "unfit_one" "unfit_one" s_unfit_one f fd) : Binds K fd ["state", "numbers"] [] := F.binds fun _ _ _ _ _ _ us hl => match us, hl with | [_, _], _ => rfl
theorem bn_unfit_two {K : PySem.W.Frag} {f : Addr} {fd : FuncData} (F : Fun K "unfit_two" "unfit_two" s_unfit_two f fd) : Binds K fd ["state", "numbers"] [] := F.binds fun _ _ _ _ _ _ us hl => match us, hl with | [_, _], _ => rfl
theorem bn_unfit_join {K : PySem.W.Frag} {f : Addr} {fd : FuncData} (F : Fun K "unfit_join" "unfit_join" s_unfit_join f fd) : Binds K fd ["state", "numbers"] [] := F.binds fun _ _ _ _ _ _ us hl => match us, hl with | [_, _], _ => rfl
theorem bn_unfit_cut {K : PySem.W.Frag} {f : Addr} {fd : FuncData} (F : Fun K "unfit_cut" "unfit_cut" s_unfit_cut f fd) : Binds K fd ["state", "numbers"] [] := F.binds fun _ _ _ _ _ _ us hl => match us, hl with | [_, _], _ => rfl
theorem bn_unfit_wider {K : PySem.W.Frag} {f : Addr} {fd : FuncData} (F : Fun K "unfit_wider" "unfit_wider" s_unfit_wider f fd) : Binds K fd ["state", "numbers"] [] := F.binds fun _ _ _ _ _ _ us hl => match us, hl with | [_, _], _ => rfl
theorem bn_unfit_pick {K : PySem.W.Frag} {f : Addr} {fd : FuncData} (F : Fun K "unfit_pick" "unfit_pick" s_unfit_pick f fd) : Binds K fd ["state", "numbers"] [] := F.binds fun _ _ _ _ _ _ us hl => match us, hl with | [_, _], _ => rfl
theorem bn_make_input {K : PySem.W.Frag} {f : Addr} {fd : FuncData} (F : Fun K "make_input" "make_input" s_make_input f fd) : Binds K fd ["state", "numbers"] [] := F.binds fun _ _ _ _ _ _ us hl => match us, hl with | [_, _], _ => rfl
theorem bn_make_const {K : PySem.W.Frag} {f : Addr} {fd : FuncData} (F : Fun K "make_const" "make_const" s_make_const f fd) : Binds K fd ["state", "numbers"] [] := F.binds fun _ _ _ _ _ _ us hl => match us, hl with | [_, _], _ => rfl
theorem bn_make_not {K : PySem.W.Frag} {f : Addr} {fd : FuncData} (F : Fun K "make_not" "make_not" s_make_not f fd) : Binds K fd ["state", "numbers"] [] := F.binds fun _ _ _ _ _ _ us hl => match us, hl with | [_, _], _ => rfl
theorem bn_make_neg {K : PySem.W.Frag} {f : Addr} {fd : FuncData} (F : Fun K "make_neg" "make_neg" s_make_neg f fd) : Binds K fd ["state", "numbers"] [] := F.binds fun _ _ _ _ _ _ us hl => match us, hl with | [_, _], _ => rfl
theorem bn_make_two {K : PySem.W.Frag} {f : Addr} {fd : FuncData} (F : Fun K "make_two" "make_two" s_make_two f fd) : Binds K fd ["state", "numbers"] [] := F.binds fun _ _ _ _ _ _ us hl => match us, hl with | [_, _], _ => rfl
theorem bn_make_join {K : PySem.W.Frag} {f : Addr} {fd : FuncData} (F : Fun K "make_join" "make_join" s_make_join f fd) : Binds K fd ["state", "numbers"] [] := F.binds fun _ _ _ _ _ _ us hl => match us, hl with | [_, _], _ => rfl
theorem bn_make_cut {K : PySem.W.Frag} {f : Addr} {fd : FuncData} (F : Fun K "make_cut" "make_cut" s_make_cut f fd) : Binds K fd ["state", "numbers"] [] := F.binds fun _ _ _ _ _ _ us hl => match us, hl with | [_, _], _ => rfl
theorem bn_make_zext {K : PySem.W.Frag} {f : Addr} {fd : FuncData} (F : Fun K "make_zext" "make_zext" s_make_zext f fd) : Binds K fd ["state", "numbers"] [] := F.binds fun _ _ _ _ _ _ us hl => match us, hl with | [_, _], _ => rfl
theorem bn_make_sext {K : PySem.W.Frag} {f : Addr} {fd : FuncData} (F : Fun K "make_sext" "make_sext" s_make_sext f fd) : Binds K fd ["state", "numbers"] [] := F.binds fun _ _ _ _ _ _ us hl => match us, hl with | [_, _], _ => rfl
theorem bn_make_pick {K : PySem.W.Frag} {f : Addr} {fd : FuncData} (F : Fun K "make_pick" "make_pick" s_make_pick f fd) : Binds K fd ["state", "numbers"] [] := F.binds fun _ _ _ _ _ _ us hl => match us, hl with | [_, _], _ => rfl
theorem bn_Gates_shrink {K : PySem.W.Frag} {f : Addr} {fd : FuncData} (F : Fun K "shrink" "Gates.shrink" s_Gates_shrink f fd) : Binds K fd ["self", "size"] [] := F.binds fun _ _ _ _ _ _ us hl => match us, hl with | [_, _], _ => rfl
theorem bn_refusal_of_term {K : PySem.W.Frag} {f : Addr} {fd : FuncData} (F : Fun K "refusal_of_term" "refusal_of_term" s_refusal_of_term f fd) : Binds K fd ["state", "call", "numbers"] [] := F.binds fun _ _ _ _ _ _ us hl => match us, hl with | [_, _, _], _ => rfl
theorem bn_answer_of_term {K : PySem.W.Frag} {f : Addr} {fd : FuncData} (F : Fun K "answer_of_term" "answer_of_term" s_answer_of_term f fd) : Binds K fd ["state", "call", "numbers"] [] := F.binds fun _ _ _ _ _ _ us hl => match us, hl with | [_, _, _], _ => rfl
theorem bn_GatesI_initI {K : PySem.W.Frag} {f : Addr} {fd : FuncData} (F : Fun K "__init__" "Gates.__init__" s_GatesI_initI f fd) : Binds K fd ["self"] [] := F.binds fun _ _ _ _ _ _ us hl => match us, hl with | [_], _ => rfl
theorem bn_State_put_mark {K : PySem.W.Frag} {f : Addr} {fd : FuncData} (F : Fun K "put_mark" "State.put_mark" s_State_put_mark f fd) : Binds K fd ["self"] [] := F.binds fun _ _ _ _ _ _ us hl => match us, hl with | [_], _ => rfl
theorem bn_answer_of_claim {K : PySem.W.Frag} {f : Addr} {fd : FuncData} (F : Fun K "answer_of_claim" "answer_of_claim" s_answer_of_claim f fd) : Binds K fd ["state", "numbers"] [] := F.binds fun _ _ _ _ _ _ us hl => match us, hl with | [_, _], _ => rfl
theorem bn_answer_of_mark {K : PySem.W.Frag} {f : Addr} {fd : FuncData} (F : Fun K "answer_of_mark" "answer_of_mark" s_answer_of_mark f fd) : Binds K fd ["state", "numbers"] [] := F.binds fun _ _ _ _ _ _ us hl => match us, hl with | [_, _], _ => rfl
theorem bn_Worlds_where {K : PySem.W.Frag} {f : Addr} {fd : FuncData} (F : Fun K "where" "Worlds.where" s_Worlds_where f fd) : Binds K fd ["self", "literal"] [] := F.binds fun _ _ _ _ _ _ us hl => match us, hl with | [_, _], _ => rfl
theorem bn_Worlds_where_bit_is {K : PySem.W.Frag} {f : Addr} {fd : FuncData} (F : Fun K "where_bit_is" "Worlds.where_bit_is" s_Worlds_where_bit_is f fd) : Binds K fd ["self", "place"] [] := F.binds fun _ _ _ _ _ _ us hl => match us, hl with | [_, _], _ => rfl
theorem bn_Worlds_listed {K : PySem.W.Frag} {f : Addr} {fd : FuncData} (F : Fun K "listed" "Worlds.listed" s_Worlds_listed f fd) : Binds K fd ["self", "table"] [] := F.binds fun _ _ _ _ _ _ us hl => match us, hl with | [_, _], _ => rfl
theorem bn_Worlds_tables_of {K : PySem.W.Frag} {f : Addr} {fd : FuncData} (F : Fun K "tables_of" "Worlds.tables_of" s_Worlds_tables_of f fd) : Binds K fd ["self", "word"] [] := F.binds fun _ _ _ _ _ _ us hl => match us, hl with | [_, _], _ => rfl
theorem bn_value_in {K : PySem.W.Frag} {f : Addr} {fd : FuncData} (F : Fun K "value_in" "value_in" s_value_in f fd) : Binds K fd ["tables", "world"] [] := F.binds fun _ _ _ _ _ _ us hl => match us, hl with | [_, _], _ => rfl
theorem bn_Worlds_fitting {K : PySem.W.Frag} {f : Addr} {fd : FuncData} (F : Fun K "fitting" "Worlds.fitting" s_Worlds_fitting f fd) : Binds K fd ["self", "state"] [] := F.binds fun _ _ _ _ _ _ us hl => match us, hl with | [_, _], _ => rfl
theorem bn_Worlds_differing {K : PySem.W.Frag} {f : Addr} {fd : FuncData} (F : Fun K "differing" "Worlds.differing" s_Worlds_differing f fd) : Binds K fd ["self", "word", "other"] [] := F.binds fun _ _ _ _ _ _ us hl => match us, hl with | [_, _, _], _ => rfl
theorem bn_Worlds_number_of {K : PySem.W.Frag} {f : Addr} {fd : FuncData} (F : Fun K "number_of" "Worlds.number_of" s_Worlds_number_of f fd) : Binds K fd ["self", "given"] [] := F.binds fun _ _ _ _ _ _ us hl => match us, hl with | [_, _], _ => rfl
theorem bn_Worlds_inputs_in {K : PySem.W.Frag} {f : Addr} {fd : FuncData} (F : Fun K "inputs_in" "Worlds.inputs_in" s_Worlds_inputs_in f fd) : Binds K fd ["self", "world"] [] := F.binds fun _ _ _ _ _ _ us hl => match us, hl with | [_, _], _ => rfl
theorem bn_inputs_told {K : PySem.W.Frag} {f : Addr} {fd : FuncData} (F : Fun K "inputs_told" "inputs_told" s_inputs_told f fd) : Binds K fd ["worlds", "world"] [] := F.binds fun _ _ _ _ _ _ us hl => match us, hl with | [_, _], _ => rfl
theorem bn_places_of_bits {K : PySem.W.Frag} {f : Addr} {fd : FuncData} (F : Fun K "places_of_bits" "places_of_bits" s_places_of_bits f fd) : Binds K fd ["state"] [] := F.binds fun _ _ _ _ _ _ us hl => match us, hl with | [_], _ => rfl
theorem bn_WorldsI_initI {K : PySem.W.Frag} {f : Addr} {fd : FuncData} (F : Fun K "__init__" "Worlds.__init__" s_WorldsI_initI f fd) : Binds K fd ["self", "state"] [] := F.binds fun _ _ _ _ _ _ us hl => match us, hl with | [_, _], _ => rfl
theorem bn_answer_of_decide {K : PySem.W.Frag} {f : Addr} {fd : FuncData} (F : Fun K "answer_of_decide" "answer_of_decide" s_answer_of_decide f fd) : Binds K fd ["state", "numbers"] [] := F.binds fun _ _ _ _ _ _ us hl => match us, hl with | [_, _], _ => rfl
theorem bn_answer_of_count {K : PySem.W.Frag} {f : Addr} {fd : FuncData} (F : Fun K "answer_of_count" "answer_of_count" s_answer_of_count f fd) : Binds K fd ["state", "numbers"] [] := F.binds fun _ _ _ _ _ _ us hl => match us, hl with | [_, _], _ => rfl
theorem bn_answer_of_same {K : PySem.W.Frag} {f : Addr} {fd : FuncData} (F : Fun K "answer_of_same" "answer_of_same" s_answer_of_same f fd) : Binds K fd ["state", "numbers"] [] := F.binds fun _ _ _ _ _ _ us hl => match us, hl with | [_, _], _ => rfl
theorem bn_answer_of_range {K : PySem.W.Frag} {f : Addr} {fd : FuncData} (F : Fun K "answer_of_range" "answer_of_range" s_answer_of_range f fd) : Binds K fd ["state", "numbers"] [] := F.binds fun _ _ _ _ _ _ us hl => match us, hl with | [_, _], _ => rfl
theorem bn_unfit_world {K : PySem.W.Frag} {f : Addr} {fd : FuncData} (F : Fun K "unfit_world" "unfit_world" s_unfit_world f fd) : Binds K fd ["state", "given"] [] := F.binds fun _ _ _ _ _ _ us hl => match us, hl with | [_, _], _ => rfl
theorem bn_answer_of_value {K : PySem.W.Frag} {f : Addr} {fd : FuncData} (F : Fun K "answer_of_value" "answer_of_value" s_answer_of_value f fd) : Binds K fd ["state", "numbers"] [] := F.binds fun _ _ _ _ _ _ us hl => match us, hl with | [_, _], _ => rfl
theorem bn_answer_of_asking {K : PySem.W.Frag} {f : Addr} {fd : FuncData} (F : Fun K "answer_of_asking" "answer_of_asking" s_answer_of_asking f fd) : Binds K fd ["state", "which", "numbers"] [] := F.binds fun _ _ _ _ _ _ us hl => match us, hl with | [_, _, _], _ => rfl
theorem bn_Gates_pair {K : PySem.W.Frag} {f : Addr} {fd : FuncData} (F : Fun K "pair" "Gates.pair" s_Gates_pair f fd) : Binds K fd ["self", "n"] [] := F.binds fun _ _ _ _ _ _ us hl => match us, hl with | [_, _], _ => rfl
theorem bn_in_clause {K : PySem.W.Frag} {f : Addr} {fd : FuncData} (F : Fun K "in_clause" "in_clause" s_in_clause f fd) : Binds K fd ["literal"] [] := F.binds fun _ _ _ _ _ _ us hl => match us, hl with | [_], _ => rfl
theorem bn_clauses_of_gate {K : PySem.W.Frag} {f : Addr} {fd : FuncData} (F : Fun K "clauses_of_gate" "clauses_of_gate" s_clauses_of_gate f fd) : Binds K fd ["n", "pair"] [] := F.binds fun _ _ _ _ _ _ us hl => match us, hl with | [_, _], _ => rfl
theorem bn_clauses_of_claim {K : PySem.W.Frag} {f : Addr} {fd : FuncData} (F : Fun K "clauses_of_claim" "clauses_of_claim" s_clauses_of_claim f fd) : Binds K fd ["literal"] [] := F.binds fun _ _ _ _ _ _ us hl => match us, hl with | [_], _ => rfl
theorem bn_needed_nodes {K : PySem.W.Frag} {f : Addr} {fd : FuncData} (F : Fun K "needed_nodes" "needed_nodes" s_needed_nodes f fd) : Binds K fd ["state"] [] := F.binds fun _ _ _ _ _ _ us hl => match us, hl with | [_], _ => rfl
theorem bn_all_clauses {K : PySem.W.Frag} {f : Addr} {fd : FuncData} (F : Fun K "all_clauses" "all_clauses" s_all_clauses f fd) : Binds K fd ["state"] [] := F.binds fun _ _ _ _ _ _ us hl => match us, hl with | [_], _ => rfl
theorem bn_holds {K : PySem.W.Frag} {f : Addr} {fd : FuncData} (F : Fun K "holds" "holds" s_holds f fd) : Binds K fd ["clause", "told"] [] := F.binds fun _ _ _ _ _ _ us hl => match us, hl with | [_, _], _ => rfl
theorem bn_answer_of_bits {K : PySem.W.Frag} {f : Addr} {fd : FuncData} (F : Fun K "answer_of_bits" "answer_of_bits" s_answer_of_bits f fd) : Binds K fd ["state", "numbers"] [] := F.binds fun _ _ _ _ _ _ us hl => match us, hl with | [_, _], _ => rfl
theorem bn_answer_of_node {K : PySem.W.Frag} {f : Addr} {fd : FuncData} (F : Fun K "answer_of_node" "answer_of_node" s_answer_of_node f fd) : Binds K fd ["state", "numbers"] [] := F.binds fun _ _ _ _ _ _ us hl => match us, hl with | [_, _], _ => rfl
theorem bn_answer_of_sizes {K : PySem.W.Frag} {f : Addr} {fd : FuncData} (F : Fun K "answer_of_sizes" "answer_of_sizes" s_answer_of_sizes f fd) : Binds K fd ["state", "numbers"] [] := F.binds fun _ _ _ _ _ _ us hl => match us, hl with | [_, _], _ => rfl
theorem bn_answer_of_clauses {K : PySem.W.Frag} {f : Addr} {fd : FuncData} (F : Fun K "answer_of_clauses" "answer_of_clauses" s_answer_of_clauses f fd) : Binds K fd ["state", "numbers"] [] := F.binds fun _ _ _ _ _ _ us hl => match us, hl with | [_, _], _ => rfl
theorem bn_value_read {K : PySem.W.Frag} {f : Addr} {fd : FuncData} (F : Fun K "value_read" "value_read" s_value_read f fd) : Binds K fd ["word", "told"] [] := F.binds fun _ _ _ _ _ _ us hl => match us, hl with | [_, _], _ => rfl
theorem bn_answer_of_reads {K : PySem.W.Frag} {f : Addr} {fd : FuncData} (F : Fun K "answer_of_reads" "answer_of_reads" s_answer_of_reads f fd) : Binds K fd ["state", "numbers"] [] := F.binds fun _ _ _ _ _ _ us hl => match us, hl with | [_, _], _ => rfl
theorem bn_answer_of_showing {K : PySem.W.Frag} {f : Addr} {fd : FuncData} (F : Fun K "answer_of_showing" "answer_of_showing" s_answer_of_showing f fd) : Binds K fd ["state", "which", "numbers"] [] := F.binds fun _ _ _ _ _ _ us hl => match us, hl with | [_, _, _], _ => rfl
theorem bn_StateI_initI {K : PySem.W.Frag} {f : Addr} {fd : FuncData} (F : Fun K "__init__" "State.__init__" s_StateI_initI f fd) : Binds K fd ["self"] [] := F.binds fun _ _ _ _ _ _ us hl => match us, hl with | [_], _ => rfl
theorem bn_State_back_to_mark {K : PySem.W.Frag} {f : Addr} {fd : FuncData} (F : Fun K "back_to_mark" "State.back_to_mark" s_State_back_to_mark f fd) : Binds K fd ["self"] [] := F.binds fun _ _ _ _ _ _ us hl => match us, hl with | [_], _ => rfl
theorem bn_answer_of_undo {K : PySem.W.Frag} {f : Addr} {fd : FuncData} (F : Fun K "answer_of_undo" "answer_of_undo" s_answer_of_undo f fd) : Binds K fd ["state", "numbers"] [] := F.binds fun _ _ _ _ _ _ us hl => match us, hl with | [_, _], _ => rfl
theorem bn_answer_of_call {K : PySem.W.Frag} {f : Addr} {fd : FuncData} (F : Fun K "answer_of_call" "answer_of_call" s_answer_of_call f fd) : Binds K fd ["state", "call", "numbers"] [] := F.binds fun _ _ _ _ _ _ us hl => match us, hl with | [_, _, _], _ => rfl
theorem bn_answers {K : PySem.W.Frag} {f : Addr} {fd : FuncData} (F : Fun K "answers" "answers" s_answers f fd) : Binds K fd ["calls"] [] := F.binds fun _ _ _ _ _ _ us hl => match us, hl with | [_], _ => rfl
theorem all_mk {P : Program} {w : World} {K : PySem.W.Frag} {h : Heap} {mg : Str → Option Value} {fa : Addr} (X : K.In h) (G : h.Ns mainGlobals mg) (hfa : mg "answers" = some (.ref fa))
 {CG CS CW f_opposite f_Gates_size f_Gates_fresh f_Gates_gate f_Gates_both f_Gates_either f_Gates_odd f_Gates_chosen f_zeros f_opposites f_chosen_word f_word_and f_word_or f_word_xor f_added f_taken f_word_neg f_word_add f_word_sub f_moved_up f_moved_down f_word_shl f_stepped_down f_word_shr f_word_sar f_word_eq f_word_ult f_sign_turned f_word_slt f_word_mul f_divided f_word_div f_word_rem f_word_two f_State_has f_State_width f_State_bits_of_inputs f_bad_width f_unfit_input f_unfit_const f_unfit_one f_unfit_two f_unfit_join f_unfit_cut f_unfit_wider f_unfit_pick f_make_input f_make_const f_make_not f_make_neg f_make_two f_make_join f_make_cut f_make_zext f_make_sext f_make_pick f_Gates_shrink f_refusal_of_term f_answer_of_term f_GatesI_initI f_State_put_mark f_answer_of_claim f_answer_of_mark f_Worlds_where f_Worlds_where_bit_is f_Worlds_listed f_Worlds_tables_of f_value_in f_Worlds_fitting f_Worlds_differing f_Worlds_number_of f_Worlds_inputs_in f_inputs_told f_places_of_bits f_WorldsI_initI f_answer_of_decide f_answer_of_count f_answer_of_same f_answer_of_range f_unfit_world f_answer_of_value f_answer_of_asking f_Gates_pair f_in_clause f_clauses_of_gate f_clauses_of_claim f_needed_nodes f_all_clauses f_holds f_answer_of_bits f_answer_of_node f_answer_of_sizes f_answer_of_clauses f_value_read f_answer_of_reads f_answer_of_showing f_StateI_initI f_State_back_to_mark f_answer_of_undo f_answer_of_call f_answers t_ASKERS t_KEEPERS t_MAKERS t_NAMED t_NAMED_0 t_NAMED_1 t_NAMED_2 t_NAMED_3 t_NAMED_4 t_NAMED_5 t_NAMED_6 t_NAMED_7 t_NAMED_8 t_NAMED_9 t_ROW_CALLS t_SHOWERS t_SIZES t_TWO t_UNFITS : Addr} {tk_NEVER tk_ALWAYS tk_MOST_WIDTH tk_NO_TERM tk_UNFIT tk_MOST_TERMS tk_FULL tk_MOST_INPUT_BITS tk_INPUT_CALL tk_TOO_MANY_INPUT_BITS tk_MOST_NODES tk_TOO_MANY_NODES tk_MOST_CLAIMS tk_MOST_MARKS tk_NO_NODE tk_NO_MARK tk_CLAIM_CALL tk_DECIDE_CALL tk_BITS_CALL tk_VALUE_CALL : Nat}
    (aC_Gates : PySem.W.nsIn K mainGlobals "Gates" = some (some (.ref CG)))
    (pg_Gates : PySem.W.plainGet K CG Str.empty = true)
    (hd_Gates : PySem.W.hasDictIn K CG = true)
    (po_Gates : PySem.W.plainOver K CG = true)
    (sa_Gates : PySem.W.findIn K (.ref CG) "__setattr__" = some (some (.builtin "object.__setattr__")))
    (mk_Gates : PySem.W.makesIn K CG = true)
    (kc_Gates : PySem.W.keepIn K (.ref CG) = true)
    (nN_Gates : PySem.W.findIn K (.ref CG) "nodes" = some none)
    (nK_Gates : PySem.W.findIn K (.ref CG) "known" = some none)
    (aC_State : PySem.W.nsIn K mainGlobals "State" = some (some (.ref CS)))
    (pg_State : PySem.W.plainGet K CS Str.empty = true)
    (hd_State : PySem.W.hasDictIn K CS = true)
    (po_State : PySem.W.plainOver K CS = true)
    (sa_State : PySem.W.findIn K (.ref CS) "__setattr__" = some (some (.builtin "object.__setattr__")))
    (mk_State : PySem.W.makesIn K CS = true)
    (kc_State : PySem.W.keepIn K (.ref CS) = true)
    (nG_State : PySem.W.findIn K (.ref CS) "gates" = some none)
    (nT_State : PySem.W.findIn K (.ref CS) "terms" = some none)
    (nI_State : PySem.W.findIn K (.ref CS) "inputs" = some none)
    (nC_State : PySem.W.findIn K (.ref CS) "claims" = some none)
    (nM_State : PySem.W.findIn K (.ref CS) "marks" = some none)
    (aC_Worlds : PySem.W.nsIn K mainGlobals "Worlds" = some (some (.ref CW)))
    (pg_Worlds : PySem.W.plainGet K CW Str.empty = true)
    (hd_Worlds : PySem.W.hasDictIn K CW = true)
    (po_Worlds : PySem.W.plainOver K CW = true)
    (sa_Worlds : PySem.W.findIn K (.ref CW) "__setattr__" = some (some (.builtin "object.__setattr__")))
    (mk_Worlds : PySem.W.makesIn K CW = true)
    (kc_Worlds : PySem.W.keepIn K (.ref CW) = true)
    (nW_Worlds : PySem.W.findIn K (.ref CW) "widths" = some none)
    (nA_Worlds : PySem.W.findIn K (.ref CW) "amount" = some none)
    (nE_Worlds : PySem.W.findIn K (.ref CW) "everywhere" = some none)
    (nT_Worlds : PySem.W.findIn K (.ref CW) "tables" = some none)
    (a_NEVER : PySem.W.nsIn K mainGlobals "NEVER" = some (some (.int 0 tk_NEVER)))
    (a_ALWAYS : PySem.W.nsIn K mainGlobals "ALWAYS" = some (some (.int 1 tk_ALWAYS)))
    (a_MOST_WIDTH : PySem.W.nsIn K mainGlobals "MOST_WIDTH" = some (some (.int 8 tk_MOST_WIDTH)))
    (a_NO_TERM : PySem.W.nsIn K mainGlobals "NO_TERM" = some (some (.int (-2) tk_NO_TERM)))
    (a_UNFIT : PySem.W.nsIn K mainGlobals "UNFIT" = some (some (.int (-1) tk_UNFIT)))
    (a_MOST_TERMS : PySem.W.nsIn K mainGlobals "MOST_TERMS" = some (some (.int 30 tk_MOST_TERMS)))
    (a_FULL : PySem.W.nsIn K mainGlobals "FULL" = some (some (.int (-5) tk_FULL)))
    (a_MOST_INPUT_BITS : PySem.W.nsIn K mainGlobals "MOST_INPUT_BITS" = some (some (.int 10 tk_MOST_INPUT_BITS)))
    (a_INPUT_CALL : PySem.W.nsIn K mainGlobals "INPUT_CALL" = some (some (.int 0 tk_INPUT_CALL)))
    (a_TOO_MANY_INPUT_BITS : PySem.W.nsIn K mainGlobals "TOO_MANY_INPUT_BITS" = some (some (.int (-4) tk_TOO_MANY_INPUT_BITS)))
    (a_MOST_NODES : PySem.W.nsIn K mainGlobals "MOST_NODES" = some (some (.int 1200 tk_MOST_NODES)))
    (a_TOO_MANY_NODES : PySem.W.nsIn K mainGlobals "TOO_MANY_NODES" = some (some (.int (-6) tk_TOO_MANY_NODES)))
    (a_MOST_CLAIMS : PySem.W.nsIn K mainGlobals "MOST_CLAIMS" = some (some (.int 12 tk_MOST_CLAIMS)))
    (a_MOST_MARKS : PySem.W.nsIn K mainGlobals "MOST_MARKS" = some (some (.int 8 tk_MOST_MARKS)))
    (a_NO_NODE : PySem.W.nsIn K mainGlobals "NO_NODE" = some (some (.int (-3) tk_NO_NODE)))
    (a_NO_MARK : PySem.W.nsIn K mainGlobals "NO_MARK" = some (some (.int (-7) tk_NO_MARK)))
    (a_CLAIM_CALL : PySem.W.nsIn K mainGlobals "CLAIM_CALL" = some (some (.int 10 tk_CLAIM_CALL)))
    (a_DECIDE_CALL : PySem.W.nsIn K mainGlobals "DECIDE_CALL" = some (some (.int 13 tk_DECIDE_CALL)))
    (a_BITS_CALL : PySem.W.nsIn K mainGlobals "BITS_CALL" = some (some (.int 17 tk_BITS_CALL)))
    (a_VALUE_CALL : PySem.W.nsIn K mainGlobals "VALUE_CALL" = some (some (.int 22 tk_VALUE_CALL)))
    (z_abs : PySem.W.nsIn K mainGlobals "abs" = some none)
    (z_any : PySem.W.nsIn K mainGlobals "any" = some none)
    (z_dict : PySem.W.nsIn K mainGlobals "dict" = some none)
    (z_enumerate : PySem.W.nsIn K mainGlobals "enumerate" = some none)
    (z_len : PySem.W.nsIn K mainGlobals "len" = some none)
    (z_max : PySem.W.nsIn K mainGlobals "max" = some none)
    (z_min : PySem.W.nsIn K mainGlobals "min" = some none)
    (z_range : PySem.W.nsIn K mainGlobals "range" = some none)
    (z_reversed : PySem.W.nsIn K mainGlobals "reversed" = some none)
    (z_sum : PySem.W.nsIn K mainGlobals "sum" = some none)
    (z_zip : PySem.W.nsIn K mainGlobals "zip" = some none)
    (a_opposite : PySem.W.nsIn K mainGlobals "opposite" = some (some (.ref f_opposite)))
    (d_opposite : DefAt K "opposite" "opposite" s_opposite f_opposite)
    (a_Gates_size : PySem.W.findIn K (.ref CG) "size" = some (some (.ref f_Gates_size)))
    (i_Gates_size : PySem.W.isFn K (.ref f_Gates_size) = true)
    (d_Gates_size : DefAt K "size" "Gates.size" s_Gates_size f_Gates_size)
    (a_Gates_fresh : PySem.W.findIn K (.ref CG) "fresh" = some (some (.ref f_Gates_fresh)))
    (i_Gates_fresh : PySem.W.isFn K (.ref f_Gates_fresh) = true)
    (d_Gates_fresh : DefAt K "fresh" "Gates.fresh" s_Gates_fresh f_Gates_fresh)
    (a_Gates_gate : PySem.W.findIn K (.ref CG) "gate" = some (some (.ref f_Gates_gate)))
    (i_Gates_gate : PySem.W.isFn K (.ref f_Gates_gate) = true)
    (d_Gates_gate : DefAt K "gate" "Gates.gate" s_Gates_gate f_Gates_gate)
    (a_Gates_both : PySem.W.findIn K (.ref CG) "both" = some (some (.ref f_Gates_both)))
    (i_Gates_both : PySem.W.isFn K (.ref f_Gates_both) = true)
    (d_Gates_both : DefAt K "both" "Gates.both" s_Gates_both f_Gates_both)
    (a_Gates_either : PySem.W.findIn K (.ref CG) "either" = some (some (.ref f_Gates_either)))
    (i_Gates_either : PySem.W.isFn K (.ref f_Gates_either) = true)
    (d_Gates_either : DefAt K "either" "Gates.either" s_Gates_either f_Gates_either)
    (a_Gates_odd : PySem.W.findIn K (.ref CG) "odd" = some (some (.ref f_Gates_odd)))
    (i_Gates_odd : PySem.W.isFn K (.ref f_Gates_odd) = true)
    (d_Gates_odd : DefAt K "odd" "Gates.odd" s_Gates_odd f_Gates_odd)
    (a_Gates_chosen : PySem.W.findIn K (.ref CG) "chosen" = some (some (.ref f_Gates_chosen)))
    (i_Gates_chosen : PySem.W.isFn K (.ref f_Gates_chosen) = true)
    (d_Gates_chosen : DefAt K "chosen" "Gates.chosen" s_Gates_chosen f_Gates_chosen)
    (a_zeros : PySem.W.nsIn K mainGlobals "zeros" = some (some (.ref f_zeros)))
    (d_zeros : DefAt K "zeros" "zeros" s_zeros f_zeros)
    (a_opposites : PySem.W.nsIn K mainGlobals "opposites" = some (some (.ref f_opposites)))
    (d_opposites : DefAt K "opposites" "opposites" s_opposites f_opposites)
    (a_chosen_word : PySem.W.nsIn K mainGlobals "chosen_word" = some (some (.ref f_chosen_word)))
    (d_chosen_word : DefAt K "chosen_word" "chosen_word" s_chosen_word f_chosen_word)
    (a_word_and : PySem.W.nsIn K mainGlobals "word_and" = some (some (.ref f_word_and)))
    (d_word_and : DefAt K "word_and" "word_and" s_word_and f_word_and)
    (a_word_or : PySem.W.nsIn K mainGlobals "word_or" = some (some (.ref f_word_or)))
    (d_word_or : DefAt K "word_or" "word_or" s_word_or f_word_or)
    (a_word_xor : PySem.W.nsIn K mainGlobals "word_xor" = some (some (.ref f_word_xor)))
    (d_word_xor : DefAt K "word_xor" "word_xor" s_word_xor f_word_xor)
    (a_added : PySem.W.nsIn K mainGlobals "added" = some (some (.ref f_added)))
    (d_added : DefAt K "added" "added" s_added f_added)
    (a_taken : PySem.W.nsIn K mainGlobals "taken" = some (some (.ref f_taken)))
    (d_taken : DefAt K "taken" "taken" s_taken f_taken)
    (a_word_neg : PySem.W.nsIn K mainGlobals "word_neg" = some (some (.ref f_word_neg)))
    (d_word_neg : DefAt K "word_neg" "word_neg" s_word_neg f_word_neg)
    (a_word_add : PySem.W.nsIn K mainGlobals "word_add" = some (some (.ref f_word_add)))
    (d_word_add : DefAt K "word_add" "word_add" s_word_add f_word_add)
    (a_word_sub : PySem.W.nsIn K mainGlobals "word_sub" = some (some (.ref f_word_sub)))
    (d_word_sub : DefAt K "word_sub" "word_sub" s_word_sub f_word_sub)
    (a_moved_up : PySem.W.nsIn K mainGlobals "moved_up" = some (some (.ref f_moved_up)))
    (d_moved_up : DefAt K "moved_up" "moved_up" s_moved_up f_moved_up)
    (a_moved_down : PySem.W.nsIn K mainGlobals "moved_down" = some (some (.ref f_moved_down)))
    (d_moved_down : DefAt K "moved_down" "moved_down" s_moved_down f_moved_down)
    (a_word_shl : PySem.W.nsIn K mainGlobals "word_shl" = some (some (.ref f_word_shl)))
    (d_word_shl : DefAt K "word_shl" "word_shl" s_word_shl f_word_shl)
    (a_stepped_down : PySem.W.nsIn K mainGlobals "stepped_down" = some (some (.ref f_stepped_down)))
    (d_stepped_down : DefAt K "stepped_down" "stepped_down" s_stepped_down f_stepped_down)
    (a_word_shr : PySem.W.nsIn K mainGlobals "word_shr" = some (some (.ref f_word_shr)))
    (d_word_shr : DefAt K "word_shr" "word_shr" s_word_shr f_word_shr)
    (a_word_sar : PySem.W.nsIn K mainGlobals "word_sar" = some (some (.ref f_word_sar)))
    (d_word_sar : DefAt K "word_sar" "word_sar" s_word_sar f_word_sar)
    (a_word_eq : PySem.W.nsIn K mainGlobals "word_eq" = some (some (.ref f_word_eq)))
    (d_word_eq : DefAt K "word_eq" "word_eq" s_word_eq f_word_eq)
    (a_word_ult : PySem.W.nsIn K mainGlobals "word_ult" = some (some (.ref f_word_ult)))
    (d_word_ult : DefAt K "word_ult" "word_ult" s_word_ult f_word_ult)
    (a_sign_turned : PySem.W.nsIn K mainGlobals "sign_turned" = some (some (.ref f_sign_turned)))
    (d_sign_turned : DefAt K "sign_turned" "sign_turned" s_sign_turned f_sign_turned)
    (a_word_slt : PySem.W.nsIn K mainGlobals "word_slt" = some (some (.ref f_word_slt)))
    (d_word_slt : DefAt K "word_slt" "word_slt" s_word_slt f_word_slt)
    (a_word_mul : PySem.W.nsIn K mainGlobals "word_mul" = some (some (.ref f_word_mul)))
    (d_word_mul : DefAt K "word_mul" "word_mul" s_word_mul f_word_mul)
    (a_divided : PySem.W.nsIn K mainGlobals "divided" = some (some (.ref f_divided)))
    (d_divided : DefAt K "divided" "divided" s_divided f_divided)
    (a_word_div : PySem.W.nsIn K mainGlobals "word_div" = some (some (.ref f_word_div)))
    (d_word_div : DefAt K "word_div" "word_div" s_word_div f_word_div)
    (a_word_rem : PySem.W.nsIn K mainGlobals "word_rem" = some (some (.ref f_word_rem)))
    (d_word_rem : DefAt K "word_rem" "word_rem" s_word_rem f_word_rem)
    (a_word_two : PySem.W.nsIn K mainGlobals "word_two" = some (some (.ref f_word_two)))
    (d_word_two : DefAt K "word_two" "word_two" s_word_two f_word_two)
    (a_State_has : PySem.W.findIn K (.ref CS) "has" = some (some (.ref f_State_has)))
    (i_State_has : PySem.W.isFn K (.ref f_State_has) = true)
    (d_State_has : DefAt K "has" "State.has" s_State_has f_State_has)
    (a_State_width : PySem.W.findIn K (.ref CS) "width" = some (some (.ref f_State_width)))
    (i_State_width : PySem.W.isFn K (.ref f_State_width) = true)
    (d_State_width : DefAt K "width" "State.width" s_State_width f_State_width)
    (a_State_bits_of_inputs : PySem.W.findIn K (.ref CS) "bits_of_inputs" = some (some (.ref f_State_bits_of_inputs)))
    (i_State_bits_of_inputs : PySem.W.isFn K (.ref f_State_bits_of_inputs) = true)
    (d_State_bits_of_inputs : DefAt K "bits_of_inputs" "State.bits_of_inputs" s_State_bits_of_inputs f_State_bits_of_inputs)
    (a_bad_width : PySem.W.nsIn K mainGlobals "bad_width" = some (some (.ref f_bad_width)))
    (d_bad_width : DefAt K "bad_width" "bad_width" s_bad_width f_bad_width)
    (a_unfit_input : PySem.W.nsIn K mainGlobals "unfit_input" = some (some (.ref f_unfit_input)))
    (d_unfit_input : DefAt K "unfit_input" "unfit_input" s_unfit_input f_unfit_input)
    (a_unfit_const : PySem.W.nsIn K mainGlobals "unfit_const" = some (some (.ref f_unfit_const)))
    (d_unfit_const : DefAt K "unfit_const" "unfit_const" s_unfit_const f_unfit_const)
    (a_unfit_one : PySem.W.nsIn K mainGlobals "unfit_one" = some (some (.ref f_unfit_one)))
    (d_unfit_one : DefAt K "unfit_one" "unfit_one" s_unfit_one f_unfit_one)
    (a_unfit_two : PySem.W.nsIn K mainGlobals "unfit_two" = some (some (.ref f_unfit_two)))
    (d_unfit_two : DefAt K "unfit_two" "unfit_two" s_unfit_two f_unfit_two)
    (a_unfit_join : PySem.W.nsIn K mainGlobals "unfit_join" = some (some (.ref f_unfit_join)))
    (d_unfit_join : DefAt K "unfit_join" "unfit_join" s_unfit_join f_unfit_join)
    (a_unfit_cut : PySem.W.nsIn K mainGlobals "unfit_cut" = some (some (.ref f_unfit_cut)))
    (d_unfit_cut : DefAt K "unfit_cut" "unfit_cut" s_unfit_cut f_unfit_cut)
    (a_unfit_wider : PySem.W.nsIn K mainGlobals "unfit_wider" = some (some (.ref f_unfit_wider)))
    (d_unfit_wider : DefAt K "unfit_wider" "unfit_wider" s_unfit_wider f_unfit_wider)
    (a_unfit_pick : PySem.W.nsIn K mainGlobals "unfit_pick" = some (some (.ref f_unfit_pick)))
    (d_unfit_pick : DefAt K "unfit_pick" "unfit_pick" s_unfit_pick f_unfit_pick)
    (a_make_input : PySem.W.nsIn K mainGlobals "make_input" = some (some (.ref f_make_input)))
    (d_make_input : DefAt K "make_input" "make_input" s_make_input f_make_input)
    (a_make_const : PySem.W.nsIn K mainGlobals "make_const" = some (some (.ref f_make_const)))
    (d_make_const : DefAt K "make_const" "make_const" s_make_const f_make_const)
    (a_make_not : PySem.W.nsIn K mainGlobals "make_not" = some (some (.ref f_make_not)))
    (d_make_not : DefAt K "make_not" "make_not" s_make_not f_make_not)
    (a_make_neg : PySem.W.nsIn K mainGlobals "make_neg" = some (some (.ref f_make_neg)))
    (d_make_neg : DefAt K "make_neg" "make_neg" s_make_neg f_make_neg)
    (a_make_two : PySem.W.nsIn K mainGlobals "make_two" = some (some (.ref f_make_two)))
    (d_make_two : DefAt K "make_two" "make_two" s_make_two f_make_two)
    (a_make_join : PySem.W.nsIn K mainGlobals "make_join" = some (some (.ref f_make_join)))
    (d_make_join : DefAt K "make_join" "make_join" s_make_join f_make_join)
    (a_make_cut : PySem.W.nsIn K mainGlobals "make_cut" = some (some (.ref f_make_cut)))
    (d_make_cut : DefAt K "make_cut" "make_cut" s_make_cut f_make_cut)
    (a_make_zext : PySem.W.nsIn K mainGlobals "make_zext" = some (some (.ref f_make_zext)))
    (d_make_zext : DefAt K "make_zext" "make_zext" s_make_zext f_make_zext)
    (a_make_sext : PySem.W.nsIn K mainGlobals "make_sext" = some (some (.ref f_make_sext)))
    (d_make_sext : DefAt K "make_sext" "make_sext" s_make_sext f_make_sext)
    (a_make_pick : PySem.W.nsIn K mainGlobals "make_pick" = some (some (.ref f_make_pick)))
    (d_make_pick : DefAt K "make_pick" "make_pick" s_make_pick f_make_pick)
    (a_Gates_shrink : PySem.W.findIn K (.ref CG) "shrink" = some (some (.ref f_Gates_shrink)))
    (i_Gates_shrink : PySem.W.isFn K (.ref f_Gates_shrink) = true)
    (d_Gates_shrink : DefAt K "shrink" "Gates.shrink" s_Gates_shrink f_Gates_shrink)
    (a_refusal_of_term : PySem.W.nsIn K mainGlobals "refusal_of_term" = some (some (.ref f_refusal_of_term)))
    (d_refusal_of_term : DefAt K "refusal_of_term" "refusal_of_term" s_refusal_of_term f_refusal_of_term)
    (a_answer_of_term : PySem.W.nsIn K mainGlobals "answer_of_term" = some (some (.ref f_answer_of_term)))
    (d_answer_of_term : DefAt K "answer_of_term" "answer_of_term" s_answer_of_term f_answer_of_term)
    (a_GatesI_initI : PySem.W.findIn K (.ref CG) "__init__" = some (some (.ref f_GatesI_initI)))
    (i_GatesI_initI : PySem.W.isFn K (.ref f_GatesI_initI) = true)
    (d_GatesI_initI : DefAt K "__init__" "Gates.__init__" s_GatesI_initI f_GatesI_initI)
    (a_State_put_mark : PySem.W.findIn K (.ref CS) "put_mark" = some (some (.ref f_State_put_mark)))
    (i_State_put_mark : PySem.W.isFn K (.ref f_State_put_mark) = true)
    (d_State_put_mark : DefAt K "put_mark" "State.put_mark" s_State_put_mark f_State_put_mark)
    (a_answer_of_claim : PySem.W.nsIn K mainGlobals "answer_of_claim" = some (some (.ref f_answer_of_claim)))
    (d_answer_of_claim : DefAt K "answer_of_claim" "answer_of_claim" s_answer_of_claim f_answer_of_claim)
    (a_answer_of_mark : PySem.W.nsIn K mainGlobals "answer_of_mark" = some (some (.ref f_answer_of_mark)))
    (d_answer_of_mark : DefAt K "answer_of_mark" "answer_of_mark" s_answer_of_mark f_answer_of_mark)
    (a_Worlds_where : PySem.W.findIn K (.ref CW) "where" = some (some (.ref f_Worlds_where)))
    (i_Worlds_where : PySem.W.isFn K (.ref f_Worlds_where) = true)
    (d_Worlds_where : DefAt K "where" "Worlds.where" s_Worlds_where f_Worlds_where)
    (a_Worlds_where_bit_is : PySem.W.findIn K (.ref CW) "where_bit_is" = some (some (.ref f_Worlds_where_bit_is)))
    (i_Worlds_where_bit_is : PySem.W.isFn K (.ref f_Worlds_where_bit_is) = true)
    (d_Worlds_where_bit_is : DefAt K "where_bit_is" "Worlds.where_bit_is" s_Worlds_where_bit_is f_Worlds_where_bit_is)
    (a_Worlds_listed : PySem.W.findIn K (.ref CW) "listed" = some (some (.ref f_Worlds_listed)))
    (i_Worlds_listed : PySem.W.isFn K (.ref f_Worlds_listed) = true)
    (d_Worlds_listed : DefAt K "listed" "Worlds.listed" s_Worlds_listed f_Worlds_listed)
    (a_Worlds_tables_of : PySem.W.findIn K (.ref CW) "tables_of" = some (some (.ref f_Worlds_tables_of)))
    (i_Worlds_tables_of : PySem.W.isFn K (.ref f_Worlds_tables_of) = true)
    (d_Worlds_tables_of : DefAt K "tables_of" "Worlds.tables_of" s_Worlds_tables_of f_Worlds_tables_of)
    (a_value_in : PySem.W.nsIn K mainGlobals "value_in" = some (some (.ref f_value_in)))
    (d_value_in : DefAt K "value_in" "value_in" s_value_in f_value_in)
    (a_Worlds_fitting : PySem.W.findIn K (.ref CW) "fitting" = some (some (.ref f_Worlds_fitting)))
    (i_Worlds_fitting : PySem.W.isFn K (.ref f_Worlds_fitting) = true)
    (d_Worlds_fitting : DefAt K "fitting" "Worlds.fitting" s_Worlds_fitting f_Worlds_fitting)
    (a_Worlds_differing : PySem.W.findIn K (.ref CW) "differing" = some (some (.ref f_Worlds_differing)))
    (i_Worlds_differing : PySem.W.isFn K (.ref f_Worlds_differing) = true)
    (d_Worlds_differing : DefAt K "differing" "Worlds.differing" s_Worlds_differing f_Worlds_differing)
    (a_Worlds_number_of : PySem.W.findIn K (.ref CW) "number_of" = some (some (.ref f_Worlds_number_of)))
    (i_Worlds_number_of : PySem.W.isFn K (.ref f_Worlds_number_of) = true)
    (d_Worlds_number_of : DefAt K "number_of" "Worlds.number_of" s_Worlds_number_of f_Worlds_number_of)
    (a_Worlds_inputs_in : PySem.W.findIn K (.ref CW) "inputs_in" = some (some (.ref f_Worlds_inputs_in)))
    (i_Worlds_inputs_in : PySem.W.isFn K (.ref f_Worlds_inputs_in) = true)
    (d_Worlds_inputs_in : DefAt K "inputs_in" "Worlds.inputs_in" s_Worlds_inputs_in f_Worlds_inputs_in)
    (a_inputs_told : PySem.W.nsIn K mainGlobals "inputs_told" = some (some (.ref f_inputs_told)))
    (d_inputs_told : DefAt K "inputs_told" "inputs_told" s_inputs_told f_inputs_told)
    (a_places_of_bits : PySem.W.nsIn K mainGlobals "places_of_bits" = some (some (.ref f_places_of_bits)))
    (d_places_of_bits : DefAt K "places_of_bits" "places_of_bits" s_places_of_bits f_places_of_bits)
    (a_WorldsI_initI : PySem.W.findIn K (.ref CW) "__init__" = some (some (.ref f_WorldsI_initI)))
    (i_WorldsI_initI : PySem.W.isFn K (.ref f_WorldsI_initI) = true)
    (d_WorldsI_initI : DefAt K "__init__" "Worlds.__init__" s_WorldsI_initI f_WorldsI_initI)
    (a_answer_of_decide : PySem.W.nsIn K mainGlobals "answer_of_decide" = some (some (.ref f_answer_of_decide)))
    (d_answer_of_decide : DefAt K "answer_of_decide" "answer_of_decide" s_answer_of_decide f_answer_of_decide)
    (a_answer_of_count : PySem.W.nsIn K mainGlobals "answer_of_count" = some (some (.ref f_answer_of_count)))
    (d_answer_of_count : DefAt K "answer_of_count" "answer_of_count" s_answer_of_count f_answer_of_count)
    (a_answer_of_same : PySem.W.nsIn K mainGlobals "answer_of_same" = some (some (.ref f_answer_of_same)))
    (d_answer_of_same : DefAt K "answer_of_same" "answer_of_same" s_answer_of_same f_answer_of_same)
    (a_answer_of_range : PySem.W.nsIn K mainGlobals "answer_of_range" = some (some (.ref f_answer_of_range)))
    (d_answer_of_range : DefAt K "answer_of_range" "answer_of_range" s_answer_of_range f_answer_of_range)
    (a_unfit_world : PySem.W.nsIn K mainGlobals "unfit_world" = some (some (.ref f_unfit_world)))
    (d_unfit_world : DefAt K "unfit_world" "unfit_world" s_unfit_world f_unfit_world)
    (a_answer_of_value : PySem.W.nsIn K mainGlobals "answer_of_value" = some (some (.ref f_answer_of_value)))
    (d_answer_of_value : DefAt K "answer_of_value" "answer_of_value" s_answer_of_value f_answer_of_value)
    (a_answer_of_asking : PySem.W.nsIn K mainGlobals "answer_of_asking" = some (some (.ref f_answer_of_asking)))
    (d_answer_of_asking : DefAt K "answer_of_asking" "answer_of_asking" s_answer_of_asking f_answer_of_asking)
    (a_Gates_pair : PySem.W.findIn K (.ref CG) "pair" = some (some (.ref f_Gates_pair)))
    (i_Gates_pair : PySem.W.isFn K (.ref f_Gates_pair) = true)
    (d_Gates_pair : DefAt K "pair" "Gates.pair" s_Gates_pair f_Gates_pair)
    (a_in_clause : PySem.W.nsIn K mainGlobals "in_clause" = some (some (.ref f_in_clause)))
    (d_in_clause : DefAt K "in_clause" "in_clause" s_in_clause f_in_clause)
    (a_clauses_of_gate : PySem.W.nsIn K mainGlobals "clauses_of_gate" = some (some (.ref f_clauses_of_gate)))
    (d_clauses_of_gate : DefAt K "clauses_of_gate" "clauses_of_gate" s_clauses_of_gate f_clauses_of_gate)
    (a_clauses_of_claim : PySem.W.nsIn K mainGlobals "clauses_of_claim" = some (some (.ref f_clauses_of_claim)))
    (d_clauses_of_claim : DefAt K "clauses_of_claim" "clauses_of_claim" s_clauses_of_claim f_clauses_of_claim)
    (a_needed_nodes : PySem.W.nsIn K mainGlobals "needed_nodes" = some (some (.ref f_needed_nodes)))
    (d_needed_nodes : DefAt K "needed_nodes" "needed_nodes" s_needed_nodes f_needed_nodes)
    (a_all_clauses : PySem.W.nsIn K mainGlobals "all_clauses" = some (some (.ref f_all_clauses)))
    (d_all_clauses : DefAt K "all_clauses" "all_clauses" s_all_clauses f_all_clauses)
    (a_holds : PySem.W.nsIn K mainGlobals "holds" = some (some (.ref f_holds)))
    (d_holds : DefAt K "holds" "holds" s_holds f_holds)
    (a_answer_of_bits : PySem.W.nsIn K mainGlobals "answer_of_bits" = some (some (.ref f_answer_of_bits)))
    (d_answer_of_bits : DefAt K "answer_of_bits" "answer_of_bits" s_answer_of_bits f_answer_of_bits)
    (a_answer_of_node : PySem.W.nsIn K mainGlobals "answer_of_node" = some (some (.ref f_answer_of_node)))
    (d_answer_of_node : DefAt K "answer_of_node" "answer_of_node" s_answer_of_node f_answer_of_node)
    (a_answer_of_sizes : PySem.W.nsIn K mainGlobals "answer_of_sizes" = some (some (.ref f_answer_of_sizes)))
    (d_answer_of_sizes : DefAt K "answer_of_sizes" "answer_of_sizes" s_answer_of_sizes f_answer_of_sizes)
    (a_answer_of_clauses : PySem.W.nsIn K mainGlobals "answer_of_clauses" = some (some (.ref f_answer_of_clauses)))
    (d_answer_of_clauses : DefAt K "answer_of_clauses" "answer_of_clauses" s_answer_of_clauses f_answer_of_clauses)
    (a_value_read : PySem.W.nsIn K mainGlobals "value_read" = some (some (.ref f_value_read)))
    (d_value_read : DefAt K "value_read" "value_read" s_value_read f_value_read)
    (a_answer_of_reads : PySem.W.nsIn K mainGlobals "answer_of_reads" = some (some (.ref f_answer_of_reads)))
    (d_answer_of_reads : DefAt K "answer_of_reads" "answer_of_reads" s_answer_of_reads f_answer_of_reads)
    (a_answer_of_showing : PySem.W.nsIn K mainGlobals "answer_of_showing" = some (some (.ref f_answer_of_showing)))
    (d_answer_of_showing : DefAt K "answer_of_showing" "answer_of_showing" s_answer_of_showing f_answer_of_showing)
    (a_StateI_initI : PySem.W.findIn K (.ref CS) "__init__" = some (some (.ref f_StateI_initI)))
    (i_StateI_initI : PySem.W.isFn K (.ref f_StateI_initI) = true)
    (d_StateI_initI : DefAt K "__init__" "State.__init__" s_StateI_initI f_StateI_initI)
    (a_State_back_to_mark : PySem.W.findIn K (.ref CS) "back_to_mark" = some (some (.ref f_State_back_to_mark)))
    (i_State_back_to_mark : PySem.W.isFn K (.ref f_State_back_to_mark) = true)
    (d_State_back_to_mark : DefAt K "back_to_mark" "State.back_to_mark" s_State_back_to_mark f_State_back_to_mark)
    (a_answer_of_undo : PySem.W.nsIn K mainGlobals "answer_of_undo" = some (some (.ref f_answer_of_undo)))
    (d_answer_of_undo : DefAt K "answer_of_undo" "answer_of_undo" s_answer_of_undo f_answer_of_undo)
    (a_answer_of_call : PySem.W.nsIn K mainGlobals "answer_of_call" = some (some (.ref f_answer_of_call)))
    (d_answer_of_call : DefAt K "answer_of_call" "answer_of_call" s_answer_of_call f_answer_of_call)
    (a_answers : PySem.W.nsIn K mainGlobals "answers" = some (some (.ref f_answers)))
    (d_answers : DefAt K "answers" "answers" s_answers f_answers)
    (a_ASKERS : PySem.W.nsIn K mainGlobals "ASKERS" = some (some (.ref t_ASKERS)))
    (e_ASKERS : TupAt K t_ASKERS #[.ref f_answer_of_decide, .ref f_answer_of_same, .ref f_answer_of_range, .ref f_answer_of_count])
    (a_KEEPERS : PySem.W.nsIn K mainGlobals "KEEPERS" = some (some (.ref t_KEEPERS)))
    (e_KEEPERS : TupAt K t_KEEPERS #[.ref f_answer_of_claim, .ref f_answer_of_mark, .ref f_answer_of_undo])
    (a_MAKERS : PySem.W.nsIn K mainGlobals "MAKERS" = some (some (.ref t_MAKERS)))
    (e_MAKERS : TupAt K t_MAKERS #[.ref f_make_input, .ref f_make_const, .ref f_make_not, .ref f_make_neg, .ref f_make_two, .ref f_make_join, .ref f_make_cut, .ref f_make_zext, .ref f_make_sext, .ref f_make_pick])
    (a_NAMED : PySem.W.nsIn K mainGlobals "NAMED" = some (some (.ref t_NAMED)))
    (e_NAMED : TupAt K t_NAMED #[.ref t_NAMED_0, .ref t_NAMED_1, .ref t_NAMED_2, .ref t_NAMED_3, .ref t_NAMED_4, .ref t_NAMED_5, .ref t_NAMED_6, .ref t_NAMED_7, .ref t_NAMED_8, .ref t_NAMED_9])
    (e_NAMED_0 : TupI K t_NAMED_0 [])
    (e_NAMED_1 : TupI K t_NAMED_1 [])
    (e_NAMED_2 : TupI K t_NAMED_2 [0])
    (e_NAMED_3 : TupI K t_NAMED_3 [0])
    (e_NAMED_4 : TupI K t_NAMED_4 [1, 2])
    (e_NAMED_5 : TupI K t_NAMED_5 [0, 1])
    (e_NAMED_6 : TupI K t_NAMED_6 [0])
    (e_NAMED_7 : TupI K t_NAMED_7 [0])
    (e_NAMED_8 : TupI K t_NAMED_8 [0])
    (e_NAMED_9 : TupI K t_NAMED_9 [0, 1, 2])
    (a_ROW_CALLS : PySem.W.nsIn K mainGlobals "ROW_CALLS" = some (some (.ref t_ROW_CALLS)))
    (e_ROW_CALLS : TupI K t_ROW_CALLS [21, 22])
    (a_SHOWERS : PySem.W.nsIn K mainGlobals "SHOWERS" = some (some (.ref t_SHOWERS)))
    (e_SHOWERS : TupAt K t_SHOWERS #[.ref f_answer_of_bits, .ref f_answer_of_node, .ref f_answer_of_sizes, .ref f_answer_of_clauses, .ref f_answer_of_reads])
    (a_SIZES : PySem.W.nsIn K mainGlobals "SIZES" = some (some (.ref t_SIZES)))
    (e_SIZES : TupI K t_SIZES [1, 2, 1, 1, 3, 2, 3, 2, 2, 3, 1, 0, 0, 0, 2, 1, 0, 1, 1, 0, 0, 0, 1])
    (a_TWO : PySem.W.nsIn K mainGlobals "TWO" = some (some (.ref t_TWO)))
    (e_TWO : TupAt K t_TWO #[.ref f_word_and, .ref f_word_or, .ref f_word_xor, .ref f_word_add, .ref f_word_sub, .ref f_word_mul, .ref f_word_div, .ref f_word_rem, .ref f_word_shl, .ref f_word_shr, .ref f_word_sar, .ref f_word_eq, .ref f_word_ult, .ref f_word_slt])
    (a_UNFITS : PySem.W.nsIn K mainGlobals "UNFITS" = some (some (.ref t_UNFITS)))
    (e_UNFITS : TupAt K t_UNFITS #[.ref f_unfit_input, .ref f_unfit_const, .ref f_unfit_one, .ref f_unfit_one, .ref f_unfit_two, .ref f_unfit_join, .ref f_unfit_cut, .ref f_unfit_wider, .ref f_unfit_wider, .ref f_unfit_pick])
     : ∃ fd : FuncData, (∀ (s : Shared) (us : List Value), us.length = (["calls"] : List Str).length → BindsTo s fd ⟨us, []⟩ ((["calls"] : List Str).zip us)) ∧ ∀ base : Heap, K.In base → base.Ns mainGlobals mg → FnOk P w K mg base CX0 30 fa fd ["calls"] (spAns K) := by
  obtain ⟨fd_answers, F_answers⟩ := d_answers.def_
  have efa : f_answers = fa := by
    have e := PySem.W.mg_of X G a_answers
    rw [hfa] at e
    injection e with e
    injection e with e
    exact e.symm
  subst efa
  refine ⟨fd_answers, fun s us hl => ?_, fun base Xb Gb => ?_⟩
  · obtain ⟨oc, od, kV, doc, pm, an, cdv, ct, osl, rfl, lk, hcd⟩ := F_answers.ex
    exact .of_eq (match us, hl with | [_], _ => rfl)
  have T_Gates : TGates K CG := ⟨⟨pg_Gates, hd_Gates, po_Gates, sa_Gates⟩, nN_Gates, nK_Gates⟩
  have T_State : TState K CS := ⟨⟨pg_State, hd_State, po_State, sa_State⟩, nG_State, nT_State, nI_State, nC_State, nM_State⟩
  have T_Worlds : TWorlds K CW := ⟨⟨pg_Worlds, hd_Worlds, po_Worlds, sa_Worlds⟩, nW_Worlds, nA_Worlds, nE_Worlds, nT_Worlds⟩
  have g_NEVER : GI mg "NEVER" 0 := ⟨_, PySem.W.mg_of X G a_NEVER⟩
  have g_ALWAYS : GI mg "ALWAYS" 1 := ⟨_, PySem.W.mg_of X G a_ALWAYS⟩
  have g_MOST_WIDTH : GI mg "MOST_WIDTH" 8 := ⟨_, PySem.W.mg_of X G a_MOST_WIDTH⟩
  have g_NO_TERM : GI mg "NO_TERM" (-2) := ⟨_, PySem.W.mg_of X G a_NO_TERM⟩
  have g_UNFIT : GI mg "UNFIT" (-1) := ⟨_, PySem.W.mg_of X G a_UNFIT⟩
  have g_MOST_TERMS : GI mg "MOST_TERMS" 30 := ⟨_, PySem.W.mg_of X G a_MOST_TERMS⟩
  have g_FULL : GI mg "FULL" (-5) := ⟨_, PySem.W.mg_of X G a_FULL⟩
  have g_MOST_INPUT_BITS : GI mg "MOST_INPUT_BITS" 10 := ⟨_, PySem.W.mg_of X G a_MOST_INPUT_BITS⟩
  have g_INPUT_CALL : GI mg "INPUT_CALL" 0 := ⟨_, PySem.W.mg_of X G a_INPUT_CALL⟩
  have g_TOO_MANY_INPUT_BITS : GI mg "TOO_MANY_INPUT_BITS" (-4) := ⟨_, PySem.W.mg_of X G a_TOO_MANY_INPUT_BITS⟩
  have g_MOST_NODES : GI mg "MOST_NODES" 1200 := ⟨_, PySem.W.mg_of X G a_MOST_NODES⟩
  have g_TOO_MANY_NODES : GI mg "TOO_MANY_NODES" (-6) := ⟨_, PySem.W.mg_of X G a_TOO_MANY_NODES⟩
  have g_MOST_CLAIMS : GI mg "MOST_CLAIMS" 12 := ⟨_, PySem.W.mg_of X G a_MOST_CLAIMS⟩
  have g_MOST_MARKS : GI mg "MOST_MARKS" 8 := ⟨_, PySem.W.mg_of X G a_MOST_MARKS⟩
  have g_NO_NODE : GI mg "NO_NODE" (-3) := ⟨_, PySem.W.mg_of X G a_NO_NODE⟩
  have g_NO_MARK : GI mg "NO_MARK" (-7) := ⟨_, PySem.W.mg_of X G a_NO_MARK⟩
  have g_CLAIM_CALL : GI mg "CLAIM_CALL" 10 := ⟨_, PySem.W.mg_of X G a_CLAIM_CALL⟩
  have g_DECIDE_CALL : GI mg "DECIDE_CALL" 13 := ⟨_, PySem.W.mg_of X G a_DECIDE_CALL⟩
  have g_BITS_CALL : GI mg "BITS_CALL" 17 := ⟨_, PySem.W.mg_of X G a_BITS_CALL⟩
  have g_VALUE_CALL : GI mg "VALUE_CALL" 22 := ⟨_, PySem.W.mg_of X G a_VALUE_CALL⟩
  have b_abs : mg "abs" = none := PySem.W.mg_none_of X G z_abs
  have b_any : mg "any" = none := PySem.W.mg_none_of X G z_any
  have b_dict : mg "dict" = none := PySem.W.mg_none_of X G z_dict
  have b_enumerate : mg "enumerate" = none := PySem.W.mg_none_of X G z_enumerate
  have b_len : mg "len" = none := PySem.W.mg_none_of X G z_len
  have b_max : mg "max" = none := PySem.W.mg_none_of X G z_max
  have b_min : mg "min" = none := PySem.W.mg_none_of X G z_min
  have b_range : mg "range" = none := PySem.W.mg_none_of X G z_range
  have b_reversed : mg "reversed" = none := PySem.W.mg_none_of X G z_reversed
  have b_sum : mg "sum" = none := PySem.W.mg_none_of X G z_sum
  have b_zip : mg "zip" = none := PySem.W.mg_none_of X G z_zip
  have m_ASKERS : mg "ASKERS" = some (.ref t_ASKERS) := PySem.W.mg_of X G a_ASKERS
  have m_KEEPERS : mg "KEEPERS" = some (.ref t_KEEPERS) := PySem.W.mg_of X G a_KEEPERS
  have m_MAKERS : mg "MAKERS" = some (.ref t_MAKERS) := PySem.W.mg_of X G a_MAKERS
  have m_NAMED : mg "NAMED" = some (.ref t_NAMED) := PySem.W.mg_of X G a_NAMED
  have m_ROW_CALLS : mg "ROW_CALLS" = some (.ref t_ROW_CALLS) := PySem.W.mg_of X G a_ROW_CALLS
  have m_SHOWERS : mg "SHOWERS" = some (.ref t_SHOWERS) := PySem.W.mg_of X G a_SHOWERS
  have m_SIZES : mg "SIZES" = some (.ref t_SIZES) := PySem.W.mg_of X G a_SIZES
  have m_TWO : mg "TWO" = some (.ref t_TWO) := PySem.W.mg_of X G a_TWO
  have m_UNFITS : mg "UNFITS" = some (.ref t_UNFITS) := PySem.W.mg_of X G a_UNFITS
  obtain ⟨fd_opposite, F_opposite⟩ := d_opposite.def_
  have O_opposite : FnOk P w K mg base CX0 1 f_opposite fd_opposite ["x"] (spOpp) := ok_opposite F_opposite  
  have D_opposite : DF P w K mg base 1 "opposite" (spOpp) := ⟨_, _, _, PySem.W.mg_of X G a_opposite, F_opposite.kp, bn_opposite F_opposite, O_opposite⟩
  obtain ⟨fd_Gates_size, F_Gates_size⟩ := d_Gates_size.def_
  have O_Gates_size : FnOk P w K mg base CX0 1 f_Gates_size fd_Gates_size ["self"] (spSize CG) := ok_Gates_size F_Gates_size b_len T_Gates 
  have D_size : DM P w K mg base CG 1 "size" (spSize CG) := ⟨_, _, _, ⟨pg_Gates, hd_Gates, po_Gates, sa_Gates⟩, ⟨a_Gates_size, i_Gates_size, F_Gates_size.kp⟩, bn_Gates_size F_Gates_size, O_Gates_size⟩
  obtain ⟨fd_Gates_fresh, F_Gates_fresh⟩ := d_Gates_fresh.def_
  have O_Gates_fresh : FnOk P w K mg base CX0 1 f_Gates_fresh fd_Gates_fresh ["self"] (spFresh CG) := ok_Gates_fresh F_Gates_fresh T_Gates b_len 
  have D_fresh : DM P w K mg base CG 1 "fresh" (spFresh CG) := ⟨_, _, _, ⟨pg_Gates, hd_Gates, po_Gates, sa_Gates⟩, ⟨a_Gates_fresh, i_Gates_fresh, F_Gates_fresh.kp⟩, bn_Gates_fresh F_Gates_fresh, O_Gates_fresh⟩
  obtain ⟨fd_Gates_gate, F_Gates_gate⟩ := d_Gates_gate.def_
  have O_Gates_gate : FnOk P w K mg base CX0 1 f_Gates_gate fd_Gates_gate ["self", "low", "high"] (sp2 CG 1 gate_) := ok_Gates_gate F_Gates_gate T_Gates b_len 
  have D_gate : DM P w K mg base CG 1 "gate" (sp2 CG 1 gate_) := ⟨_, _, _, ⟨pg_Gates, hd_Gates, po_Gates, sa_Gates⟩, ⟨a_Gates_gate, i_Gates_gate, F_Gates_gate.kp⟩, bn_Gates_gate F_Gates_gate, O_Gates_gate⟩
  obtain ⟨fd_Gates_both, F_Gates_both⟩ := d_Gates_both.def_
  have O_Gates_both : FnOk P w K mg base CX0 2 f_Gates_both fd_Gates_both ["self", "x", "y"] (sp2 CG 1 Sm03.and_) := ok_Gates_both F_Gates_both b_min b_max D_opposite g_NEVER g_ALWAYS D_gate 
  have D_both : DM P w K mg base CG 2 "both" (sp2 CG 1 Sm03.and_) := ⟨_, _, _, ⟨pg_Gates, hd_Gates, po_Gates, sa_Gates⟩, ⟨a_Gates_both, i_Gates_both, F_Gates_both.kp⟩, bn_Gates_both F_Gates_both, O_Gates_both⟩
  obtain ⟨fd_Gates_either, F_Gates_either⟩ := d_Gates_either.def_
  have O_Gates_either : FnOk P w K mg base CX0 3 f_Gates_either fd_Gates_either ["self", "x", "y"] (sp2 CG 1 Sm03.or_) := ok_Gates_either F_Gates_either D_opposite D_both 
  have D_either : DM P w K mg base CG 3 "either" (sp2 CG 1 Sm03.or_) := ⟨_, _, _, ⟨pg_Gates, hd_Gates, po_Gates, sa_Gates⟩, ⟨a_Gates_either, i_Gates_either, F_Gates_either.kp⟩, bn_Gates_either F_Gates_either, O_Gates_either⟩
  obtain ⟨fd_Gates_odd, F_Gates_odd⟩ := d_Gates_odd.def_
  have O_Gates_odd : FnOk P w K mg base CX0 4 f_Gates_odd fd_Gates_odd ["self", "x", "y"] (sp2 CG 3 Sm03.xor_) := ok_Gates_odd F_Gates_odd D_both D_opposite D_either 
  have D_odd : DM P w K mg base CG 4 "odd" (sp2 CG 3 Sm03.xor_) := ⟨_, _, _, ⟨pg_Gates, hd_Gates, po_Gates, sa_Gates⟩, ⟨a_Gates_odd, i_Gates_odd, F_Gates_odd.kp⟩, bn_Gates_odd F_Gates_odd, O_Gates_odd⟩
  obtain ⟨fd_Gates_chosen, F_Gates_chosen⟩ := d_Gates_chosen.def_
  have O_Gates_chosen : FnOk P w K mg base CX0 4 f_Gates_chosen fd_Gates_chosen ["self", "c", "x", "y"] (sp3 CG 3 Sm03.mux) := ok_Gates_chosen F_Gates_chosen D_both D_opposite D_either 
  have D_chosen : DM P w K mg base CG 4 "chosen" (sp3 CG 3 Sm03.mux) := ⟨_, _, _, ⟨pg_Gates, hd_Gates, po_Gates, sa_Gates⟩, ⟨a_Gates_chosen, i_Gates_chosen, F_Gates_chosen.kp⟩, bn_Gates_chosen F_Gates_chosen, O_Gates_chosen⟩
  obtain ⟨fd_zeros, F_zeros⟩ := d_zeros.def_
  have O_zeros : FnOk P w K mg base CX0 1 f_zeros fd_zeros ["width"] (spZeros) := ok_zeros F_zeros g_NEVER 
  have D_zeros : DF P w K mg base 1 "zeros" (spZeros) := ⟨_, _, _, PySem.W.mg_of X G a_zeros, F_zeros.kp, bn_zeros F_zeros, O_zeros⟩
  obtain ⟨fd_opposites, F_opposites⟩ := d_opposites.def_
  have O_opposites : FnOk P w K mg base CX0 2 f_opposites fd_opposites ["word"] (spOpps) := ok_opposites F_opposites D_opposite 
  have D_opposites : DF P w K mg base 2 "opposites" (spOpps) := ⟨_, _, _, PySem.W.mg_of X G a_opposites, F_opposites.kp, bn_opposites F_opposites, O_opposites⟩
  obtain ⟨fd_chosen_word, F_chosen_word⟩ := d_chosen_word.def_
  have O_chosen_word : FnOk P w K mg base CX0 5 f_chosen_word fd_chosen_word ["gates", "c", "a", "b"] (spChW CG) := ok_chosen_word F_chosen_word b_zip D_chosen 
  have D_chosen_word : DF P w K mg base 5 "chosen_word" (spChW CG) := ⟨_, _, _, PySem.W.mg_of X G a_chosen_word, F_chosen_word.kp, bn_chosen_word F_chosen_word, O_chosen_word⟩
  obtain ⟨fd_word_and, F_word_and⟩ := d_word_and.def_
  have O_word_and : FnOk P w K mg base CX0 3 f_word_and fd_word_and ["gates", "a", "b"] (spW2 CG 8 4000 (fOp .and)) := ok_word_and F_word_and b_zip D_both 
  have D_word_and : DF P w K mg base 3 "word_and" (spW2 CG 8 4000 (fOp .and)) := ⟨_, _, _, PySem.W.mg_of X G a_word_and, F_word_and.kp, bn_word_and F_word_and, O_word_and⟩
  have H_word_and : Hld P w K mg base 3 f_word_and (spW2 CG 8 4000 (fOp .and)) := ⟨_, _, O_word_and, F_word_and.kp, bn_word_and F_word_and⟩
  obtain ⟨fd_word_or, F_word_or⟩ := d_word_or.def_
  have O_word_or : FnOk P w K mg base CX0 4 f_word_or fd_word_or ["gates", "a", "b"] (spW2 CG 8 4000 (fOp .or)) := ok_word_or F_word_or b_zip D_either 
  have D_word_or : DF P w K mg base 4 "word_or" (spW2 CG 8 4000 (fOp .or)) := ⟨_, _, _, PySem.W.mg_of X G a_word_or, F_word_or.kp, bn_word_or F_word_or, O_word_or⟩
  have H_word_or : Hld P w K mg base 4 f_word_or (spW2 CG 8 4000 (fOp .or)) := ⟨_, _, O_word_or, F_word_or.kp, bn_word_or F_word_or⟩
  obtain ⟨fd_word_xor, F_word_xor⟩ := d_word_xor.def_
  have O_word_xor : FnOk P w K mg base CX0 5 f_word_xor fd_word_xor ["gates", "a", "b"] (spW2 CG 8 4000 (fOp .xor)) := ok_word_xor F_word_xor b_zip D_odd 
  have D_word_xor : DF P w K mg base 5 "word_xor" (spW2 CG 8 4000 (fOp .xor)) := ⟨_, _, _, PySem.W.mg_of X G a_word_xor, F_word_xor.kp, bn_word_xor F_word_xor, O_word_xor⟩
  have H_word_xor : Hld P w K mg base 5 f_word_xor (spW2 CG 8 4000 (fOp .xor)) := ⟨_, _, O_word_xor, F_word_xor.kp, bn_word_xor F_word_xor⟩
  obtain ⟨fd_added, F_added⟩ := d_added.def_
  have O_added : FnOk P w K mg base CX0 5 f_added fd_added ["gates", "a", "b", "carry"] (spAdded CG) := ok_added F_added b_zip D_odd D_both D_either 
  have D_added : DF P w K mg base 5 "added" (spAdded CG) := ⟨_, _, _, PySem.W.mg_of X G a_added, F_added.kp, bn_added F_added, O_added⟩
  obtain ⟨fd_taken, F_taken⟩ := d_taken.def_
  have O_taken : FnOk P w K mg base CX0 6 f_taken fd_taken ["gates", "a", "b"] (spW2 CG 16 144 subsL) := ok_taken F_taken D_added g_ALWAYS D_opposites 
  have D_taken : DF P w K mg base 6 "taken" (spW2 CG 16 144 subsL) := ⟨_, _, _, PySem.W.mg_of X G a_taken, F_taken.kp, bn_taken F_taken, O_taken⟩
  obtain ⟨fd_word_neg, F_word_neg⟩ := d_word_neg.def_
  have O_word_neg : FnOk P w K mg base CX0 7 f_word_neg fd_word_neg ["gates", "a"] (spW1 CG 8 4000 fNeg) := ok_word_neg F_word_neg D_taken D_zeros b_len 
  have D_word_neg : DF P w K mg base 7 "word_neg" (spW1 CG 8 4000 fNeg) := ⟨_, _, _, PySem.W.mg_of X G a_word_neg, F_word_neg.kp, bn_word_neg F_word_neg, O_word_neg⟩
  obtain ⟨fd_word_add, F_word_add⟩ := d_word_add.def_
  have O_word_add : FnOk P w K mg base CX0 6 f_word_add fd_word_add ["gates", "a", "b"] (spW2 CG 8 4000 (fOp .add)) := ok_word_add F_word_add D_added g_NEVER 
  have D_word_add : DF P w K mg base 6 "word_add" (spW2 CG 8 4000 (fOp .add)) := ⟨_, _, _, PySem.W.mg_of X G a_word_add, F_word_add.kp, bn_word_add F_word_add, O_word_add⟩
  have H_word_add : Hld P w K mg base 6 f_word_add (spW2 CG 8 4000 (fOp .add)) := ⟨_, _, O_word_add, F_word_add.kp, bn_word_add F_word_add⟩
  obtain ⟨fd_word_sub, F_word_sub⟩ := d_word_sub.def_
  have O_word_sub : FnOk P w K mg base CX0 7 f_word_sub fd_word_sub ["gates", "a", "b"] (spW2 CG 8 4000 (fOp .sub)) := ok_word_sub F_word_sub D_taken 
  have D_word_sub : DF P w K mg base 7 "word_sub" (spW2 CG 8 4000 (fOp .sub)) := ⟨_, _, _, PySem.W.mg_of X G a_word_sub, F_word_sub.kp, bn_word_sub F_word_sub, O_word_sub⟩
  have H_word_sub : Hld P w K mg base 7 f_word_sub (spW2 CG 8 4000 (fOp .sub)) := ⟨_, _, O_word_sub, F_word_sub.kp, bn_word_sub F_word_sub⟩
  obtain ⟨fd_moved_up, F_moved_up⟩ := d_moved_up.def_
  have O_moved_up : FnOk P w K mg base CX0 2 f_moved_up fd_moved_up ["word", "step"] (spUp) := ok_moved_up F_moved_up D_zeros b_len 
  have D_moved_up : DF P w K mg base 2 "moved_up" (spUp) := ⟨_, _, _, PySem.W.mg_of X G a_moved_up, F_moved_up.kp, bn_moved_up F_moved_up, O_moved_up⟩
  obtain ⟨fd_moved_down, F_moved_down⟩ := d_moved_down.def_
  have O_moved_down : FnOk P w K mg base CX0 1 f_moved_down fd_moved_down ["word", "step", "fill"] (spDown) := ok_moved_down F_moved_down  
  have D_moved_down : DF P w K mg base 1 "moved_down" (spDown) := ⟨_, _, _, PySem.W.mg_of X G a_moved_down, F_moved_down.kp, bn_moved_down F_moved_down, O_moved_down⟩
  obtain ⟨fd_word_shl, F_word_shl⟩ := d_word_shl.def_
  have O_word_shl : FnOk P w K mg base CX0 6 f_word_shl fd_word_shl ["gates", "a", "b"] (spW2 CG 8 4000 (fOp .shl)) := ok_word_shl F_word_shl D_chosen_word D_moved_up 
  have D_word_shl : DF P w K mg base 6 "word_shl" (spW2 CG 8 4000 (fOp .shl)) := ⟨_, _, _, PySem.W.mg_of X G a_word_shl, F_word_shl.kp, bn_word_shl F_word_shl, O_word_shl⟩
  have H_word_shl : Hld P w K mg base 6 f_word_shl (spW2 CG 8 4000 (fOp .shl)) := ⟨_, _, O_word_shl, F_word_shl.kp, bn_word_shl F_word_shl⟩
  obtain ⟨fd_stepped_down, F_stepped_down⟩ := d_stepped_down.def_
  have O_stepped_down : FnOk P w K mg base CX0 6 f_stepped_down fd_stepped_down ["gates", "a", "b", "with_sign"] (spStep CG) := ok_stepped_down F_stepped_down g_NEVER D_chosen_word D_moved_down 
  have D_stepped_down : DF P w K mg base 6 "stepped_down" (spStep CG) := ⟨_, _, _, PySem.W.mg_of X G a_stepped_down, F_stepped_down.kp, bn_stepped_down F_stepped_down, O_stepped_down⟩
  obtain ⟨fd_word_shr, F_word_shr⟩ := d_word_shr.def_
  have O_word_shr : FnOk P w K mg base CX0 7 f_word_shr fd_word_shr ["gates", "a", "b"] (spW2 CG 8 4000 (fOp .shr)) := ok_word_shr F_word_shr D_stepped_down 
  have D_word_shr : DF P w K mg base 7 "word_shr" (spW2 CG 8 4000 (fOp .shr)) := ⟨_, _, _, PySem.W.mg_of X G a_word_shr, F_word_shr.kp, bn_word_shr F_word_shr, O_word_shr⟩
  have H_word_shr : Hld P w K mg base 7 f_word_shr (spW2 CG 8 4000 (fOp .shr)) := ⟨_, _, O_word_shr, F_word_shr.kp, bn_word_shr F_word_shr⟩
  obtain ⟨fd_word_sar, F_word_sar⟩ := d_word_sar.def_
  have O_word_sar : FnOk P w K mg base CX0 7 f_word_sar fd_word_sar ["gates", "a", "b"] (spW2 CG 8 4000 (fOp .sar)) := ok_word_sar F_word_sar D_stepped_down 
  have D_word_sar : DF P w K mg base 7 "word_sar" (spW2 CG 8 4000 (fOp .sar)) := ⟨_, _, _, PySem.W.mg_of X G a_word_sar, F_word_sar.kp, bn_word_sar F_word_sar, O_word_sar⟩
  have H_word_sar : Hld P w K mg base 7 f_word_sar (spW2 CG 8 4000 (fOp .sar)) := ⟨_, _, O_word_sar, F_word_sar.kp, bn_word_sar F_word_sar⟩
  obtain ⟨fd_word_eq, F_word_eq⟩ := d_word_eq.def_
  have O_word_eq : FnOk P w K mg base CX0 6 f_word_eq fd_word_eq ["gates", "a", "b"] (spW2 CG 8 4000 (fOp .eq)) := ok_word_eq F_word_eq D_word_xor g_ALWAYS D_both D_opposite 
  have D_word_eq : DF P w K mg base 6 "word_eq" (spW2 CG 8 4000 (fOp .eq)) := ⟨_, _, _, PySem.W.mg_of X G a_word_eq, F_word_eq.kp, bn_word_eq F_word_eq, O_word_eq⟩
  have H_word_eq : Hld P w K mg base 6 f_word_eq (spW2 CG 8 4000 (fOp .eq)) := ⟨_, _, O_word_eq, F_word_eq.kp, bn_word_eq F_word_eq⟩
  obtain ⟨fd_word_ult, F_word_ult⟩ := d_word_ult.def_
  have O_word_ult : FnOk P w K mg base CX0 7 f_word_ult fd_word_ult ["gates", "a", "b"] (spW2 CG 8 4000 (fOp .ult)) := ok_word_ult F_word_ult D_opposite D_taken 
  have D_word_ult : DF P w K mg base 7 "word_ult" (spW2 CG 8 4000 (fOp .ult)) := ⟨_, _, _, PySem.W.mg_of X G a_word_ult, F_word_ult.kp, bn_word_ult F_word_ult, O_word_ult⟩
  have H_word_ult : Hld P w K mg base 7 f_word_ult (spW2 CG 8 4000 (fOp .ult)) := ⟨_, _, O_word_ult, F_word_ult.kp, bn_word_ult F_word_ult⟩
  obtain ⟨fd_sign_turned, F_sign_turned⟩ := d_sign_turned.def_
  have O_sign_turned : FnOk P w K mg base CX0 2 f_sign_turned fd_sign_turned ["word"] (spTurned) := ok_sign_turned F_sign_turned D_opposite 
  have D_sign_turned : DF P w K mg base 2 "sign_turned" (spTurned) := ⟨_, _, _, PySem.W.mg_of X G a_sign_turned, F_sign_turned.kp, bn_sign_turned F_sign_turned, O_sign_turned⟩
  obtain ⟨fd_word_slt, F_word_slt⟩ := d_word_slt.def_
  have O_word_slt : FnOk P w K mg base CX0 8 f_word_slt fd_word_slt ["gates", "a", "b"] (spW2 CG 8 4000 (fOp .slt)) := ok_word_slt F_word_slt D_word_ult D_sign_turned 
  have D_word_slt : DF P w K mg base 8 "word_slt" (spW2 CG 8 4000 (fOp .slt)) := ⟨_, _, _, PySem.W.mg_of X G a_word_slt, F_word_slt.kp, bn_word_slt F_word_slt, O_word_slt⟩
  have H_word_slt : Hld P w K mg base 8 f_word_slt (spW2 CG 8 4000 (fOp .slt)) := ⟨_, _, O_word_slt, F_word_slt.kp, bn_word_slt F_word_slt⟩
  obtain ⟨fd_word_mul, F_word_mul⟩ := d_word_mul.def_
  have O_word_mul : FnOk P w K mg base CX0 6 f_word_mul fd_word_mul ["gates", "a", "b"] (spW2 CG 8 4000 (fOp .mul)) := ok_word_mul F_word_mul D_zeros b_len b_enumerate D_moved_up D_both D_added g_NEVER 
  have D_word_mul : DF P w K mg base 6 "word_mul" (spW2 CG 8 4000 (fOp .mul)) := ⟨_, _, _, PySem.W.mg_of X G a_word_mul, F_word_mul.kp, bn_word_mul F_word_mul, O_word_mul⟩
  have H_word_mul : Hld P w K mg base 6 f_word_mul (spW2 CG 8 4000 (fOp .mul)) := ⟨_, _, O_word_mul, F_word_mul.kp, bn_word_mul F_word_mul⟩
  obtain ⟨fd_divided, F_divided⟩ := d_divided.def_
  have O_divided : FnOk P w K mg base CX0 7 f_divided fd_divided ["gates", "a", "b"] (spW2 CG 8 4000 fDiv) := ok_divided F_divided D_zeros b_len b_reversed D_taken g_NEVER D_chosen_word 
  have D_divided : DF P w K mg base 7 "divided" (spW2 CG 8 4000 fDiv) := ⟨_, _, _, PySem.W.mg_of X G a_divided, F_divided.kp, bn_divided F_divided, O_divided⟩
  obtain ⟨fd_word_div, F_word_div⟩ := d_word_div.def_
  have O_word_div : FnOk P w K mg base CX0 8 f_word_div fd_word_div ["gates", "a", "b"] (spW2 CG 8 4000 (fOp .div)) := ok_word_div F_word_div D_divided b_len 
  have D_word_div : DF P w K mg base 8 "word_div" (spW2 CG 8 4000 (fOp .div)) := ⟨_, _, _, PySem.W.mg_of X G a_word_div, F_word_div.kp, bn_word_div F_word_div, O_word_div⟩
  have H_word_div : Hld P w K mg base 8 f_word_div (spW2 CG 8 4000 (fOp .div)) := ⟨_, _, O_word_div, F_word_div.kp, bn_word_div F_word_div⟩
  obtain ⟨fd_word_rem, F_word_rem⟩ := d_word_rem.def_
  have O_word_rem : FnOk P w K mg base CX0 8 f_word_rem fd_word_rem ["gates", "a", "b"] (spW2 CG 8 4000 (fOp .rem)) := ok_word_rem F_word_rem D_divided b_len 
  have D_word_rem : DF P w K mg base 8 "word_rem" (spW2 CG 8 4000 (fOp .rem)) := ⟨_, _, _, PySem.W.mg_of X G a_word_rem, F_word_rem.kp, bn_word_rem F_word_rem, O_word_rem⟩
  have H_word_rem : Hld P w K mg base 8 f_word_rem (spW2 CG 8 4000 (fOp .rem)) := ⟨_, _, O_word_rem, F_word_rem.kp, bn_word_rem F_word_rem⟩
  obtain ⟨fd_word_two, F_word_two⟩ := d_word_two.def_
  have hT : ∀ (wh : Nat) (o : Sm03.Op), Sm03Neutral.opOf wh = some o → ∃ f, ([.ref f_word_and, .ref f_word_or, .ref f_word_xor, .ref f_word_add, .ref f_word_sub, .ref f_word_mul, .ref f_word_div, .ref f_word_rem, .ref f_word_shl, .ref f_word_shr, .ref f_word_sar, .ref f_word_eq, .ref f_word_ult, .ref f_word_slt] : List V)[wh]? = some (.ref f) ∧ Hld P w K mg base 8 f (spW2 CG 8 4000 (fOp o)) := by
    intro wh o ho
    match wh, ho with
    | 0, ho => cases ho; exact ⟨_, rfl, H_word_and.mono (by decide)⟩
    | 1, ho => cases ho; exact ⟨_, rfl, H_word_or.mono (by decide)⟩
    | 2, ho => cases ho; exact ⟨_, rfl, H_word_xor.mono (by decide)⟩
    | 3, ho => cases ho; exact ⟨_, rfl, H_word_add.mono (by decide)⟩
    | 4, ho => cases ho; exact ⟨_, rfl, H_word_sub.mono (by decide)⟩
    | 5, ho => cases ho; exact ⟨_, rfl, H_word_mul.mono (by decide)⟩
    | 6, ho => cases ho; exact ⟨_, rfl, H_word_div.mono (by decide)⟩
    | 7, ho => cases ho; exact ⟨_, rfl, H_word_rem.mono (by decide)⟩
    | 8, ho => cases ho; exact ⟨_, rfl, H_word_shl.mono (by decide)⟩
    | 9, ho => cases ho; exact ⟨_, rfl, H_word_shr.mono (by decide)⟩
    | 10, ho => cases ho; exact ⟨_, rfl, H_word_sar.mono (by decide)⟩
    | 11, ho => cases ho; exact ⟨_, rfl, H_word_eq.mono (by decide)⟩
    | 12, ho => cases ho; exact ⟨_, rfl, H_word_ult.mono (by decide)⟩
    | 13, ho => cases ho; exact ⟨_, rfl, H_word_slt.mono (by decide)⟩
    | n + 14, ho => cases ho
  have O_word_two : FnOk P w K mg base CX0 9 f_word_two fd_word_two ["gates", "which", "a", "b"] (spTwo CG) := ok_word_two F_word_two m_TWO (e_TWO.tup (.cons rr (.cons rr (.cons rr (.cons rr (.cons rr (.cons rr (.cons rr (.cons rr (.cons rr (.cons rr (.cons rr (.cons rr (.cons rr (.cons rr (.nil))))))))))))))) (by show 14 ≤ sizeLine; decide)) hT
  have D_word_two : DF P w K mg base 9 "word_two" (spTwo CG) := ⟨_, _, _, PySem.W.mg_of X G a_word_two, F_word_two.kp, bn_word_two F_word_two, O_word_two⟩
  obtain ⟨fd_State_has, F_State_has⟩ := d_State_has.def_
  have O_State_has : FnOk P w K mg base CX0 1 f_State_has fd_State_has ["self", "name"] (spHas CS CG) := ok_State_has F_State_has b_len T_State 
  have D_has : DM P w K mg base CS 1 "has" (spHas CS CG) := ⟨_, _, _, ⟨pg_State, hd_State, po_State, sa_State⟩, ⟨a_State_has, i_State_has, F_State_has.kp⟩, bn_State_has F_State_has, O_State_has⟩
  obtain ⟨fd_State_width, F_State_width⟩ := d_State_width.def_
  have O_State_width : FnOk P w K mg base CX0 1 f_State_width fd_State_width ["self", "name"] (spWidth CS CG) := ok_State_width F_State_width b_len T_State 
  have D_width : DM P w K mg base CS 1 "width" (spWidth CS CG) := ⟨_, _, _, ⟨pg_State, hd_State, po_State, sa_State⟩, ⟨a_State_width, i_State_width, F_State_width.kp⟩, bn_State_width F_State_width, O_State_width⟩
  obtain ⟨fd_State_bits_of_inputs, F_State_bits_of_inputs⟩ := d_State_bits_of_inputs.def_
  have O_State_bits_of_inputs : FnOk P w K mg base CX0 2 f_State_bits_of_inputs fd_State_bits_of_inputs ["self"] (spBits CS CG) := ok_State_bits_of_inputs F_State_bits_of_inputs b_sum T_State D_width 
  have D_bits_of_inputs : DM P w K mg base CS 2 "bits_of_inputs" (spBits CS CG) := ⟨_, _, _, ⟨pg_State, hd_State, po_State, sa_State⟩, ⟨a_State_bits_of_inputs, i_State_bits_of_inputs, F_State_bits_of_inputs.kp⟩, bn_State_bits_of_inputs F_State_bits_of_inputs, O_State_bits_of_inputs⟩
  obtain ⟨fd_bad_width, F_bad_width⟩ := d_bad_width.def_
  have O_bad_width : FnOk P w K mg base CX0 1 f_bad_width fd_bad_width ["w"] (spBad) := ok_bad_width F_bad_width g_MOST_WIDTH 
  have D_bad_width : DF P w K mg base 1 "bad_width" (spBad) := ⟨_, _, _, PySem.W.mg_of X G a_bad_width, F_bad_width.kp, bn_bad_width F_bad_width, O_bad_width⟩
  obtain ⟨fd_unfit_input, F_unfit_input⟩ := d_unfit_input.def_
  have O_unfit_input : FnOk P w K mg base CX0 2 f_unfit_input fd_unfit_input ["state", "numbers"] (spUnfit CS CG 0) := ok_unfit_input F_unfit_input D_bad_width 
  have D_unfit_input : DF P w K mg base 2 "unfit_input" (spUnfit CS CG 0) := ⟨_, _, _, PySem.W.mg_of X G a_unfit_input, F_unfit_input.kp, bn_unfit_input F_unfit_input, O_unfit_input⟩
  have H_unfit_input : Hld P w K mg base 2 f_unfit_input (spUnfit CS CG 0) := ⟨_, _, O_unfit_input, F_unfit_input.kp, bn_unfit_input F_unfit_input⟩
  obtain ⟨fd_unfit_const, F_unfit_const⟩ := d_unfit_const.def_
  have O_unfit_const : FnOk P w K mg base CX0 2 f_unfit_const fd_unfit_const ["state", "numbers"] (spUnfit CS CG 1) := ok_unfit_const F_unfit_const D_bad_width 
  have D_unfit_const : DF P w K mg base 2 "unfit_const" (spUnfit CS CG 1) := ⟨_, _, _, PySem.W.mg_of X G a_unfit_const, F_unfit_const.kp, bn_unfit_const F_unfit_const, O_unfit_const⟩
  have H_unfit_const : Hld P w K mg base 2 f_unfit_const (spUnfit CS CG 1) := ⟨_, _, O_unfit_const, F_unfit_const.kp, bn_unfit_const F_unfit_const⟩
  obtain ⟨fd_unfit_one, F_unfit_one⟩ := d_unfit_one.def_
  have O_unfit_one : FnOk P w K mg base CX0 1 f_unfit_one fd_unfit_one ["state", "numbers"] (spUnfit1 CS CG) := ok_unfit_one F_unfit_one  
  have D_unfit_one : DF P w K mg base 1 "unfit_one" (spUnfit1 CS CG) := ⟨_, _, _, PySem.W.mg_of X G a_unfit_one, F_unfit_one.kp, bn_unfit_one F_unfit_one, O_unfit_one⟩
  have H_unfit_one : Hld P w K mg base 1 f_unfit_one (spUnfit1 CS CG) := ⟨_, _, O_unfit_one, F_unfit_one.kp, bn_unfit_one F_unfit_one⟩
  obtain ⟨fd_unfit_two, F_unfit_two⟩ := d_unfit_two.def_
  have O_unfit_two : FnOk P w K mg base CX0 2 f_unfit_two fd_unfit_two ["state", "numbers"] (spUnfit CS CG 4) := ok_unfit_two F_unfit_two D_width 
  have D_unfit_two : DF P w K mg base 2 "unfit_two" (spUnfit CS CG 4) := ⟨_, _, _, PySem.W.mg_of X G a_unfit_two, F_unfit_two.kp, bn_unfit_two F_unfit_two, O_unfit_two⟩
  have H_unfit_two : Hld P w K mg base 2 f_unfit_two (spUnfit CS CG 4) := ⟨_, _, O_unfit_two, F_unfit_two.kp, bn_unfit_two F_unfit_two⟩
  obtain ⟨fd_unfit_join, F_unfit_join⟩ := d_unfit_join.def_
  have O_unfit_join : FnOk P w K mg base CX0 2 f_unfit_join fd_unfit_join ["state", "numbers"] (spUnfit CS CG 5) := ok_unfit_join F_unfit_join D_bad_width D_width 
  have D_unfit_join : DF P w K mg base 2 "unfit_join" (spUnfit CS CG 5) := ⟨_, _, _, PySem.W.mg_of X G a_unfit_join, F_unfit_join.kp, bn_unfit_join F_unfit_join, O_unfit_join⟩
  have H_unfit_join : Hld P w K mg base 2 f_unfit_join (spUnfit CS CG 5) := ⟨_, _, O_unfit_join, F_unfit_join.kp, bn_unfit_join F_unfit_join⟩
  obtain ⟨fd_unfit_cut, F_unfit_cut⟩ := d_unfit_cut.def_
  have O_unfit_cut : FnOk P w K mg base CX0 2 f_unfit_cut fd_unfit_cut ["state", "numbers"] (spUnfit CS CG 6) := ok_unfit_cut F_unfit_cut D_width 
  have D_unfit_cut : DF P w K mg base 2 "unfit_cut" (spUnfit CS CG 6) := ⟨_, _, _, PySem.W.mg_of X G a_unfit_cut, F_unfit_cut.kp, bn_unfit_cut F_unfit_cut, O_unfit_cut⟩
  have H_unfit_cut : Hld P w K mg base 2 f_unfit_cut (spUnfit CS CG 6) := ⟨_, _, O_unfit_cut, F_unfit_cut.kp, bn_unfit_cut F_unfit_cut⟩
  obtain ⟨fd_unfit_wider, F_unfit_wider⟩ := d_unfit_wider.def_
  have O_unfit_wider : FnOk P w K mg base CX0 2 f_unfit_wider fd_unfit_wider ["state", "numbers"] (spUnfitW CS CG) := ok_unfit_wider F_unfit_wider D_bad_width D_width 
  have D_unfit_wider : DF P w K mg base 2 "unfit_wider" (spUnfitW CS CG) := ⟨_, _, _, PySem.W.mg_of X G a_unfit_wider, F_unfit_wider.kp, bn_unfit_wider F_unfit_wider, O_unfit_wider⟩
  have H_unfit_wider : Hld P w K mg base 2 f_unfit_wider (spUnfitW CS CG) := ⟨_, _, O_unfit_wider, F_unfit_wider.kp, bn_unfit_wider F_unfit_wider⟩
  obtain ⟨fd_unfit_pick, F_unfit_pick⟩ := d_unfit_pick.def_
  have O_unfit_pick : FnOk P w K mg base CX0 2 f_unfit_pick fd_unfit_pick ["state", "numbers"] (spUnfit CS CG 9) := ok_unfit_pick F_unfit_pick D_width 
  have D_unfit_pick : DF P w K mg base 2 "unfit_pick" (spUnfit CS CG 9) := ⟨_, _, _, PySem.W.mg_of X G a_unfit_pick, F_unfit_pick.kp, bn_unfit_pick F_unfit_pick, O_unfit_pick⟩
  have H_unfit_pick : Hld P w K mg base 2 f_unfit_pick (spUnfit CS CG 9) := ⟨_, _, O_unfit_pick, F_unfit_pick.kp, bn_unfit_pick F_unfit_pick⟩
  obtain ⟨fd_make_input, F_make_input⟩ := d_make_input.def_
  have O_make_input : FnOk P w K mg base CX0 2 f_make_input fd_make_input ["state", "numbers"] (spMake CS CG 0) := ok_make_input F_make_input b_range T_State D_fresh 
  have D_make_input : DF P w K mg base 2 "make_input" (spMake CS CG 0) := ⟨_, _, _, PySem.W.mg_of X G a_make_input, F_make_input.kp, bn_make_input F_make_input, O_make_input⟩
  have H_make_input : Hld P w K mg base 2 f_make_input (spMake CS CG 0) := ⟨_, _, O_make_input, F_make_input.kp, bn_make_input F_make_input⟩
  obtain ⟨fd_make_const, F_make_const⟩ := d_make_const.def_
  have O_make_const : FnOk P w K mg base CX0 1 f_make_const fd_make_const ["state", "numbers"] (spMake CS CG 1) := ok_make_const F_make_const b_range g_ALWAYS g_NEVER 
  have D_make_const : DF P w K mg base 1 "make_const" (spMake CS CG 1) := ⟨_, _, _, PySem.W.mg_of X G a_make_const, F_make_const.kp, bn_make_const F_make_const, O_make_const⟩
  have H_make_const : Hld P w K mg base 1 f_make_const (spMake CS CG 1) := ⟨_, _, O_make_const, F_make_const.kp, bn_make_const F_make_const⟩
  obtain ⟨fd_make_not, F_make_not⟩ := d_make_not.def_
  have O_make_not : FnOk P w K mg base CX0 3 f_make_not fd_make_not ["state", "numbers"] (spMake CS CG 2) := ok_make_not F_make_not D_opposites T_State 
  have D_make_not : DF P w K mg base 3 "make_not" (spMake CS CG 2) := ⟨_, _, _, PySem.W.mg_of X G a_make_not, F_make_not.kp, bn_make_not F_make_not, O_make_not⟩
  have H_make_not : Hld P w K mg base 3 f_make_not (spMake CS CG 2) := ⟨_, _, O_make_not, F_make_not.kp, bn_make_not F_make_not⟩
  obtain ⟨fd_make_neg, F_make_neg⟩ := d_make_neg.def_
  have O_make_neg : FnOk P w K mg base CX0 8 f_make_neg fd_make_neg ["state", "numbers"] (spMake CS CG 3) := ok_make_neg F_make_neg D_word_neg T_State 
  have D_make_neg : DF P w K mg base 8 "make_neg" (spMake CS CG 3) := ⟨_, _, _, PySem.W.mg_of X G a_make_neg, F_make_neg.kp, bn_make_neg F_make_neg, O_make_neg⟩
  have H_make_neg : Hld P w K mg base 8 f_make_neg (spMake CS CG 3) := ⟨_, _, O_make_neg, F_make_neg.kp, bn_make_neg F_make_neg⟩
  obtain ⟨fd_make_two, F_make_two⟩ := d_make_two.def_
  have O_make_two : FnOk P w K mg base CX0 10 f_make_two fd_make_two ["state", "numbers"] (spMake CS CG 4) := ok_make_two F_make_two D_word_two T_State 
  have D_make_two : DF P w K mg base 10 "make_two" (spMake CS CG 4) := ⟨_, _, _, PySem.W.mg_of X G a_make_two, F_make_two.kp, bn_make_two F_make_two, O_make_two⟩
  have H_make_two : Hld P w K mg base 10 f_make_two (spMake CS CG 4) := ⟨_, _, O_make_two, F_make_two.kp, bn_make_two F_make_two⟩
  obtain ⟨fd_make_join, F_make_join⟩ := d_make_join.def_
  have O_make_join : FnOk P w K mg base CX0 1 f_make_join fd_make_join ["state", "numbers"] (spMake CS CG 5) := ok_make_join F_make_join T_State 
  have D_make_join : DF P w K mg base 1 "make_join" (spMake CS CG 5) := ⟨_, _, _, PySem.W.mg_of X G a_make_join, F_make_join.kp, bn_make_join F_make_join, O_make_join⟩
  have H_make_join : Hld P w K mg base 1 f_make_join (spMake CS CG 5) := ⟨_, _, O_make_join, F_make_join.kp, bn_make_join F_make_join⟩
  obtain ⟨fd_make_cut, F_make_cut⟩ := d_make_cut.def_
  have O_make_cut : FnOk P w K mg base CX0 1 f_make_cut fd_make_cut ["state", "numbers"] (spMake CS CG 6) := ok_make_cut F_make_cut T_State 
  have D_make_cut : DF P w K mg base 1 "make_cut" (spMake CS CG 6) := ⟨_, _, _, PySem.W.mg_of X G a_make_cut, F_make_cut.kp, bn_make_cut F_make_cut, O_make_cut⟩
  have H_make_cut : Hld P w K mg base 1 f_make_cut (spMake CS CG 6) := ⟨_, _, O_make_cut, F_make_cut.kp, bn_make_cut F_make_cut⟩
  obtain ⟨fd_make_zext, F_make_zext⟩ := d_make_zext.def_
  have O_make_zext : FnOk P w K mg base CX0 2 f_make_zext fd_make_zext ["state", "numbers"] (spMake CS CG 7) := ok_make_zext F_make_zext T_State D_zeros b_len 
  have D_make_zext : DF P w K mg base 2 "make_zext" (spMake CS CG 7) := ⟨_, _, _, PySem.W.mg_of X G a_make_zext, F_make_zext.kp, bn_make_zext F_make_zext, O_make_zext⟩
  have H_make_zext : Hld P w K mg base 2 f_make_zext (spMake CS CG 7) := ⟨_, _, O_make_zext, F_make_zext.kp, bn_make_zext F_make_zext⟩
  obtain ⟨fd_make_sext, F_make_sext⟩ := d_make_sext.def_
  have O_make_sext : FnOk P w K mg base CX0 1 f_make_sext fd_make_sext ["state", "numbers"] (spMake CS CG 8) := ok_make_sext F_make_sext T_State b_len 
  have D_make_sext : DF P w K mg base 1 "make_sext" (spMake CS CG 8) := ⟨_, _, _, PySem.W.mg_of X G a_make_sext, F_make_sext.kp, bn_make_sext F_make_sext, O_make_sext⟩
  have H_make_sext : Hld P w K mg base 1 f_make_sext (spMake CS CG 8) := ⟨_, _, O_make_sext, F_make_sext.kp, bn_make_sext F_make_sext⟩
  obtain ⟨fd_make_pick, F_make_pick⟩ := d_make_pick.def_
  have O_make_pick : FnOk P w K mg base CX0 6 f_make_pick fd_make_pick ["state", "numbers"] (spMake CS CG 9) := ok_make_pick F_make_pick T_State D_chosen_word 
  have D_make_pick : DF P w K mg base 6 "make_pick" (spMake CS CG 9) := ⟨_, _, _, PySem.W.mg_of X G a_make_pick, F_make_pick.kp, bn_make_pick F_make_pick, O_make_pick⟩
  have H_make_pick : Hld P w K mg base 6 f_make_pick (spMake CS CG 9) := ⟨_, _, O_make_pick, F_make_pick.kp, bn_make_pick F_make_pick⟩
  obtain ⟨fd_Gates_shrink, F_Gates_shrink⟩ := d_Gates_shrink.def_
  have O_Gates_shrink : FnOk P w K mg base CX0 1 f_Gates_shrink fd_Gates_shrink ["self", "size"] (spShrink CG) := ok_Gates_shrink F_Gates_shrink b_len T_Gates 
  have D_shrink : DM P w K mg base CG 1 "shrink" (spShrink CG) := ⟨_, _, _, ⟨pg_Gates, hd_Gates, po_Gates, sa_Gates⟩, ⟨a_Gates_shrink, i_Gates_shrink, F_Gates_shrink.kp⟩, bn_Gates_shrink F_Gates_shrink, O_Gates_shrink⟩
  obtain ⟨fd_refusal_of_term, F_refusal_of_term⟩ := d_refusal_of_term.def_
  have hU : ∀ c, c < 10 → ∃ f sp, ([.ref f_unfit_input, .ref f_unfit_const, .ref f_unfit_one, .ref f_unfit_one, .ref f_unfit_two, .ref f_unfit_join, .ref f_unfit_cut, .ref f_unfit_wider, .ref f_unfit_wider, .ref f_unfit_pick] : List V)[c]? = some (.ref f) ∧ Hld P w K mg base 2 f sp ∧ ∀ vs H Q E, spUnfit CS CG c vs H Q E → sp vs H Q E := by
    intro c hc
    match c, hc with
    | 0, _ => exact ⟨_, _, rfl, H_unfit_input.mono (by decide), fun _ _ _ _ h => h⟩
    | 1, _ => exact ⟨_, _, rfl, H_unfit_const.mono (by decide), fun _ _ _ _ h => h⟩
    | 2, _ => exact ⟨_, _, rfl, H_unfit_one.mono (by decide), unfit1_of (.inl rfl)⟩
    | 3, _ => exact ⟨_, _, rfl, H_unfit_one.mono (by decide), unfit1_of (.inr rfl)⟩
    | 4, _ => exact ⟨_, _, rfl, H_unfit_two.mono (by decide), fun _ _ _ _ h => h⟩
    | 5, _ => exact ⟨_, _, rfl, H_unfit_join.mono (by decide), fun _ _ _ _ h => h⟩
    | 6, _ => exact ⟨_, _, rfl, H_unfit_cut.mono (by decide), fun _ _ _ _ h => h⟩
    | 7, _ => exact ⟨_, _, rfl, H_unfit_wider.mono (by decide), unfitW_of (.inl rfl)⟩
    | 8, _ => exact ⟨_, _, rfl, H_unfit_wider.mono (by decide), unfitW_of (.inr rfl)⟩
    | 9, _ => exact ⟨_, _, rfl, H_unfit_pick.mono (by decide), fun _ _ _ _ h => h⟩
  have hN : ∀ c, c < 10 → ∃ t, ([.ref t_NAMED_0, .ref t_NAMED_1, .ref t_NAMED_2, .ref t_NAMED_3, .ref t_NAMED_4, .ref t_NAMED_5, .ref t_NAMED_6, .ref t_NAMED_7, .ref t_NAMED_8, .ref t_NAMED_9] : List V)[c]? = some (.ref t) ∧ TupK K t (lits (plc c)) := by
    intro c hc
    match c, hc with
    | 0, _ => exact ⟨_, rfl, e_NAMED_0.tup⟩
    | 1, _ => exact ⟨_, rfl, e_NAMED_1.tup⟩
    | 2, _ => exact ⟨_, rfl, e_NAMED_2.tup⟩
    | 3, _ => exact ⟨_, rfl, e_NAMED_3.tup⟩
    | 4, _ => exact ⟨_, rfl, e_NAMED_4.tup⟩
    | 5, _ => exact ⟨_, rfl, e_NAMED_5.tup⟩
    | 6, _ => exact ⟨_, rfl, e_NAMED_6.tup⟩
    | 7, _ => exact ⟨_, rfl, e_NAMED_7.tup⟩
    | 8, _ => exact ⟨_, rfl, e_NAMED_8.tup⟩
    | 9, _ => exact ⟨_, rfl, e_NAMED_9.tup⟩
  have O_refusal_of_term : FnOk P w K mg base CX0 3 f_refusal_of_term fd_refusal_of_term ["state", "call", "numbers"] (spRefusal CS CG) := ok_refusal_of_term F_refusal_of_term m_NAMED D_has g_NO_TERM m_UNFITS g_UNFIT b_len T_State g_MOST_TERMS g_FULL D_bits_of_inputs g_MOST_INPUT_BITS g_INPUT_CALL g_TOO_MANY_INPUT_BITS (e_NAMED.tup (.cons rr (.cons rr (.cons rr (.cons rr (.cons rr (.cons rr (.cons rr (.cons rr (.cons rr (.cons rr (.nil))))))))))) (by show 10 ≤ sizeLine; decide)) hN (e_UNFITS.tup (.cons rr (.cons rr (.cons rr (.cons rr (.cons rr (.cons rr (.cons rr (.cons rr (.cons rr (.cons rr (.nil))))))))))) (by show 10 ≤ sizeLine; decide)) hU
  have D_refusal_of_term : DF P w K mg base 3 "refusal_of_term" (spRefusal CS CG) := ⟨_, _, _, PySem.W.mg_of X G a_refusal_of_term, F_refusal_of_term.kp, bn_refusal_of_term F_refusal_of_term, O_refusal_of_term⟩
  obtain ⟨fd_answer_of_term, F_answer_of_term⟩ := d_answer_of_term.def_
  have hM : ∀ c, c < 10 → ∃ f, ([.ref f_make_input, .ref f_make_const, .ref f_make_not, .ref f_make_neg, .ref f_make_two, .ref f_make_join, .ref f_make_cut, .ref f_make_zext, .ref f_make_sext, .ref f_make_pick] : List V)[c]? = some (.ref f) ∧ Hld P w K mg base 10 f (spMake CS CG c) := by
    intro c hc
    match c, hc with
    | 0, _ => exact ⟨_, rfl, H_make_input.mono (by decide)⟩
    | 1, _ => exact ⟨_, rfl, H_make_const.mono (by decide)⟩
    | 2, _ => exact ⟨_, rfl, H_make_not.mono (by decide)⟩
    | 3, _ => exact ⟨_, rfl, H_make_neg.mono (by decide)⟩
    | 4, _ => exact ⟨_, rfl, H_make_two.mono (by decide)⟩
    | 5, _ => exact ⟨_, rfl, H_make_join.mono (by decide)⟩
    | 6, _ => exact ⟨_, rfl, H_make_cut.mono (by decide)⟩
    | 7, _ => exact ⟨_, rfl, H_make_zext.mono (by decide)⟩
    | 8, _ => exact ⟨_, rfl, H_make_sext.mono (by decide)⟩
    | 9, _ => exact ⟨_, rfl, H_make_pick.mono (by decide)⟩
  have O_answer_of_term : FnOk P w K mg base CX0 11 f_answer_of_term fd_answer_of_term ["state", "call", "numbers"] (spTerm CS CG) := ok_answer_of_term F_answer_of_term D_refusal_of_term T_State D_size m_MAKERS g_MOST_NODES D_shrink g_TOO_MANY_NODES b_len g_INPUT_CALL (e_MAKERS.tup (.cons rr (.cons rr (.cons rr (.cons rr (.cons rr (.cons rr (.cons rr (.cons rr (.cons rr (.cons rr (.nil))))))))))) (by show 10 ≤ sizeLine; decide)) hM
  have D_answer_of_term : DF P w K mg base 11 "answer_of_term" (spTerm CS CG) := ⟨_, _, _, PySem.W.mg_of X G a_answer_of_term, F_answer_of_term.kp, bn_answer_of_term F_answer_of_term, O_answer_of_term⟩
  obtain ⟨fd_GatesI_initI, F_GatesI_initI⟩ := d_GatesI_initI.def_
  have O_GatesI_initI : FnOk P w K mg base CX0 1 f_GatesI_initI fd_GatesI_initI ["self"] (spGInit CG) := ok_GatesI_initI F_GatesI_initI T_Gates 
  have M_Gates : DK P w K mg base CG 1 "Gates" (spGInit CG) := ⟨_, _, _, ⟨mk_Gates, a_GatesI_initI, i_GatesI_initI, kc_Gates⟩, PySem.W.mg_of X G aC_Gates, bn_GatesI_initI F_GatesI_initI, O_GatesI_initI⟩
  obtain ⟨fd_State_put_mark, F_State_put_mark⟩ := d_State_put_mark.def_
  have O_State_put_mark : FnOk P w K mg base CX0 2 f_State_put_mark fd_State_put_mark ["self"] (spPut CS CG) := ok_State_put_mark F_State_put_mark T_State D_size b_len 
  have D_put_mark : DM P w K mg base CS 2 "put_mark" (spPut CS CG) := ⟨_, _, _, ⟨pg_State, hd_State, po_State, sa_State⟩, ⟨a_State_put_mark, i_State_put_mark, F_State_put_mark.kp⟩, bn_State_put_mark F_State_put_mark, O_State_put_mark⟩
  obtain ⟨fd_answer_of_claim, F_answer_of_claim⟩ := d_answer_of_claim.def_
  have O_answer_of_claim : FnOk P w K mg base CX0 2 f_answer_of_claim fd_answer_of_claim ["state", "numbers"] (spClaim CS CG) := ok_answer_of_claim F_answer_of_claim D_has g_NO_TERM D_width g_UNFIT b_len T_State g_MOST_CLAIMS g_FULL 
  have D_answer_of_claim : DF P w K mg base 2 "answer_of_claim" (spClaim CS CG) := ⟨_, _, _, PySem.W.mg_of X G a_answer_of_claim, F_answer_of_claim.kp, bn_answer_of_claim F_answer_of_claim, O_answer_of_claim⟩
  have H_answer_of_claim : Hld P w K mg base 2 f_answer_of_claim (spClaim CS CG) := ⟨_, _, O_answer_of_claim, F_answer_of_claim.kp, bn_answer_of_claim F_answer_of_claim⟩
  obtain ⟨fd_answer_of_mark, F_answer_of_mark⟩ := d_answer_of_mark.def_
  have O_answer_of_mark : FnOk P w K mg base CX0 3 f_answer_of_mark fd_answer_of_mark ["state", "numbers"] (spMark CS CG) := ok_answer_of_mark F_answer_of_mark b_len T_State g_MOST_MARKS g_FULL D_put_mark 
  have D_answer_of_mark : DF P w K mg base 3 "answer_of_mark" (spMark CS CG) := ⟨_, _, _, PySem.W.mg_of X G a_answer_of_mark, F_answer_of_mark.kp, bn_answer_of_mark F_answer_of_mark, O_answer_of_mark⟩
  have H_answer_of_mark : Hld P w K mg base 3 f_answer_of_mark (spMark CS CG) := ⟨_, _, O_answer_of_mark, F_answer_of_mark.kp, bn_answer_of_mark F_answer_of_mark⟩
  obtain ⟨fd_Worlds_where, F_Worlds_where⟩ := d_Worlds_where.def_
  have O_Worlds_where : FnOk P w K mg base CX0 1 f_Worlds_where fd_Worlds_where ["self", "literal"] (spWhere CW) := ok_Worlds_where F_Worlds_where T_Worlds 
  have D_where : DM P w K mg base CW 1 "where" (spWhere CW) := ⟨_, _, _, ⟨pg_Worlds, hd_Worlds, po_Worlds, sa_Worlds⟩, ⟨a_Worlds_where, i_Worlds_where, F_Worlds_where.kp⟩, bn_Worlds_where F_Worlds_where, O_Worlds_where⟩
  obtain ⟨fd_Worlds_where_bit_is, F_Worlds_where_bit_is⟩ := d_Worlds_where_bit_is.def_
  have O_Worlds_where_bit_is : FnOk P w K mg base CX0 1 f_Worlds_where_bit_is fd_Worlds_where_bit_is ["self", "place"] (spBitIs CW) := ok_Worlds_where_bit_is F_Worlds_where_bit_is b_sum b_range T_Worlds 
  have D_where_bit_is : DM P w K mg base CW 1 "where_bit_is" (spBitIs CW) := ⟨_, _, _, ⟨pg_Worlds, hd_Worlds, po_Worlds, sa_Worlds⟩, ⟨a_Worlds_where_bit_is, i_Worlds_where_bit_is, F_Worlds_where_bit_is.kp⟩, bn_Worlds_where_bit_is F_Worlds_where_bit_is, O_Worlds_where_bit_is⟩
  obtain ⟨fd_Worlds_listed, F_Worlds_listed⟩ := d_Worlds_listed.def_
  have O_Worlds_listed : FnOk P w K mg base CX0 1 f_Worlds_listed fd_Worlds_listed ["self", "table"] (spListed CW) := ok_Worlds_listed F_Worlds_listed b_range T_Worlds 
  have D_listed : DM P w K mg base CW 1 "listed" (spListed CW) := ⟨_, _, _, ⟨pg_Worlds, hd_Worlds, po_Worlds, sa_Worlds⟩, ⟨a_Worlds_listed, i_Worlds_listed, F_Worlds_listed.kp⟩, bn_Worlds_listed F_Worlds_listed, O_Worlds_listed⟩
  obtain ⟨fd_Worlds_tables_of, F_Worlds_tables_of⟩ := d_Worlds_tables_of.def_
  have O_Worlds_tables_of : FnOk P w K mg base CX0 2 f_Worlds_tables_of fd_Worlds_tables_of ["self", "word"] (spTabs CW) := ok_Worlds_tables_of F_Worlds_tables_of D_where 
  have D_tables_of : DM P w K mg base CW 2 "tables_of" (spTabs CW) := ⟨_, _, _, ⟨pg_Worlds, hd_Worlds, po_Worlds, sa_Worlds⟩, ⟨a_Worlds_tables_of, i_Worlds_tables_of, F_Worlds_tables_of.kp⟩, bn_Worlds_tables_of F_Worlds_tables_of, O_Worlds_tables_of⟩
  obtain ⟨fd_value_in, F_value_in⟩ := d_value_in.def_
  have O_value_in : FnOk P w K mg base CX0 1 f_value_in fd_value_in ["tables", "world"] (spValIn) := ok_value_in F_value_in b_sum b_enumerate 
  have D_value_in : DF P w K mg base 1 "value_in" (spValIn) := ⟨_, _, _, PySem.W.mg_of X G a_value_in, F_value_in.kp, bn_value_in F_value_in, O_value_in⟩
  obtain ⟨fd_Worlds_fitting, F_Worlds_fitting⟩ := d_Worlds_fitting.def_
  have O_Worlds_fitting : FnOk P w K mg base CX0 2 f_Worlds_fitting fd_Worlds_fitting ["self", "state"] (spFit CS CG CW) := ok_Worlds_fitting F_Worlds_fitting T_Worlds T_State D_where 
  have D_fitting : DM P w K mg base CW 2 "fitting" (spFit CS CG CW) := ⟨_, _, _, ⟨pg_Worlds, hd_Worlds, po_Worlds, sa_Worlds⟩, ⟨a_Worlds_fitting, i_Worlds_fitting, F_Worlds_fitting.kp⟩, bn_Worlds_fitting F_Worlds_fitting, O_Worlds_fitting⟩
  obtain ⟨fd_Worlds_differing, F_Worlds_differing⟩ := d_Worlds_differing.def_
  have O_Worlds_differing : FnOk P w K mg base CX0 2 f_Worlds_differing fd_Worlds_differing ["self", "word", "other"] (spDiff CW) := ok_Worlds_differing F_Worlds_differing b_zip D_where 
  have D_differing : DM P w K mg base CW 2 "differing" (spDiff CW) := ⟨_, _, _, ⟨pg_Worlds, hd_Worlds, po_Worlds, sa_Worlds⟩, ⟨a_Worlds_differing, i_Worlds_differing, F_Worlds_differing.kp⟩, bn_Worlds_differing F_Worlds_differing, O_Worlds_differing⟩
  obtain ⟨fd_Worlds_number_of, F_Worlds_number_of⟩ := d_Worlds_number_of.def_
  have O_Worlds_number_of : FnOk P w K mg base CX0 1 f_Worlds_number_of fd_Worlds_number_of ["self", "given"] (spNum CW) := ok_Worlds_number_of F_Worlds_number_of b_zip T_Worlds 
  have D_number_of : DM P w K mg base CW 1 "number_of" (spNum CW) := ⟨_, _, _, ⟨pg_Worlds, hd_Worlds, po_Worlds, sa_Worlds⟩, ⟨a_Worlds_number_of, i_Worlds_number_of, F_Worlds_number_of.kp⟩, bn_Worlds_number_of F_Worlds_number_of, O_Worlds_number_of⟩
  obtain ⟨fd_Worlds_inputs_in, F_Worlds_inputs_in⟩ := d_Worlds_inputs_in.def_
  have O_Worlds_inputs_in : FnOk P w K mg base CX0 1 f_Worlds_inputs_in fd_Worlds_inputs_in ["self", "world"] (spIn CW) := ok_Worlds_inputs_in F_Worlds_inputs_in b_reversed T_Worlds 
  have D_inputs_in : DM P w K mg base CW 1 "inputs_in" (spIn CW) := ⟨_, _, _, ⟨pg_Worlds, hd_Worlds, po_Worlds, sa_Worlds⟩, ⟨a_Worlds_inputs_in, i_Worlds_inputs_in, F_Worlds_inputs_in.kp⟩, bn_Worlds_inputs_in F_Worlds_inputs_in, O_Worlds_inputs_in⟩
  obtain ⟨fd_inputs_told, F_inputs_told⟩ := d_inputs_told.def_
  have O_inputs_told : FnOk P w K mg base CX0 2 f_inputs_told fd_inputs_told ["worlds", "world"] (spTold CW) := ok_inputs_told F_inputs_told D_inputs_in b_len 
  have D_inputs_told : DF P w K mg base 2 "inputs_told" (spTold CW) := ⟨_, _, _, PySem.W.mg_of X G a_inputs_told, F_inputs_told.kp, bn_inputs_told F_inputs_told, O_inputs_told⟩
  obtain ⟨fd_places_of_bits, F_places_of_bits⟩ := d_places_of_bits.def_
  have O_places_of_bits : FnOk P w K mg base CX0 3 f_places_of_bits fd_places_of_bits ["state"] (spPlaces CS CG) := ok_places_of_bits F_places_of_bits D_bits_of_inputs T_State D_width b_enumerate 
  have D_places_of_bits : DF P w K mg base 3 "places_of_bits" (spPlaces CS CG) := ⟨_, _, _, PySem.W.mg_of X G a_places_of_bits, F_places_of_bits.kp, bn_places_of_bits F_places_of_bits, O_places_of_bits⟩
  obtain ⟨fd_WorldsI_initI, F_WorldsI_initI⟩ := d_WorldsI_initI.def_
  have O_WorldsI_initI : FnOk P w K mg base CX0 4 f_WorldsI_initI fd_WorldsI_initI ["self", "state"] (spWInit CS CG CW) := ok_WorldsI_initI F_WorldsI_initI T_Worlds T_State D_width b_sum D_places_of_bits T_Gates D_where_bit_is b_len D_where 
  have M_Worlds : DK P w K mg base CW 4 "Worlds" (spWInit CS CG CW) := ⟨_, _, _, ⟨mk_Worlds, a_WorldsI_initI, i_WorldsI_initI, kc_Worlds⟩, PySem.W.mg_of X G aC_Worlds, bn_WorldsI_initI F_WorldsI_initI, O_WorldsI_initI⟩
  obtain ⟨fd_answer_of_decide, F_answer_of_decide⟩ := d_answer_of_decide.def_
  have O_answer_of_decide : FnOk P w K mg base CX0 6 f_answer_of_decide fd_answer_of_decide ["state", "numbers"] (spDecide CS CG) := ok_answer_of_decide F_answer_of_decide M_Worlds D_listed D_fitting b_len D_inputs_told 
  have D_answer_of_decide : DF P w K mg base 6 "answer_of_decide" (spDecide CS CG) := ⟨_, _, _, PySem.W.mg_of X G a_answer_of_decide, F_answer_of_decide.kp, bn_answer_of_decide F_answer_of_decide, O_answer_of_decide⟩
  have H_answer_of_decide : Hld P w K mg base 6 f_answer_of_decide (spDecide CS CG) := ⟨_, _, O_answer_of_decide, F_answer_of_decide.kp, bn_answer_of_decide F_answer_of_decide⟩
  obtain ⟨fd_answer_of_count, F_answer_of_count⟩ := d_answer_of_count.def_
  have O_answer_of_count : FnOk P w K mg base CX0 6 f_answer_of_count fd_answer_of_count ["state", "numbers"] (spCount CS CG) := ok_answer_of_count F_answer_of_count M_Worlds b_len D_listed D_fitting 
  have D_answer_of_count : DF P w K mg base 6 "answer_of_count" (spCount CS CG) := ⟨_, _, _, PySem.W.mg_of X G a_answer_of_count, F_answer_of_count.kp, bn_answer_of_count F_answer_of_count, O_answer_of_count⟩
  have H_answer_of_count : Hld P w K mg base 6 f_answer_of_count (spCount CS CG) := ⟨_, _, O_answer_of_count, F_answer_of_count.kp, bn_answer_of_count F_answer_of_count⟩
  obtain ⟨fd_answer_of_same, F_answer_of_same⟩ := d_answer_of_same.def_
  have O_answer_of_same : FnOk P w K mg base CX0 6 f_answer_of_same fd_answer_of_same ["state", "numbers"] (spSame CS CG) := ok_answer_of_same F_answer_of_same D_has g_NO_TERM D_width g_UNFIT M_Worlds D_differing T_State D_listed D_fitting b_len D_inputs_told 
  have D_answer_of_same : DF P w K mg base 6 "answer_of_same" (spSame CS CG) := ⟨_, _, _, PySem.W.mg_of X G a_answer_of_same, F_answer_of_same.kp, bn_answer_of_same F_answer_of_same, O_answer_of_same⟩
  have H_answer_of_same : Hld P w K mg base 6 f_answer_of_same (spSame CS CG) := ⟨_, _, O_answer_of_same, F_answer_of_same.kp, bn_answer_of_same F_answer_of_same⟩
  obtain ⟨fd_answer_of_range, F_answer_of_range⟩ := d_answer_of_range.def_
  have O_answer_of_range : FnOk P w K mg base CX0 6 f_answer_of_range fd_answer_of_range ["state", "numbers"] (spRange CS CG) := ok_answer_of_range F_answer_of_range D_has g_NO_TERM M_Worlds D_tables_of T_State D_listed D_fitting D_value_in b_len b_max b_min 
  have D_answer_of_range : DF P w K mg base 6 "answer_of_range" (spRange CS CG) := ⟨_, _, _, PySem.W.mg_of X G a_answer_of_range, F_answer_of_range.kp, bn_answer_of_range F_answer_of_range, O_answer_of_range⟩
  have H_answer_of_range : Hld P w K mg base 6 f_answer_of_range (spRange CS CG) := ⟨_, _, O_answer_of_range, F_answer_of_range.kp, bn_answer_of_range F_answer_of_range⟩
  obtain ⟨fd_unfit_world, F_unfit_world⟩ := d_unfit_world.def_
  have O_unfit_world : FnOk P w K mg base CX0 2 f_unfit_world fd_unfit_world ["state", "given"] (spUnW CS CG) := ok_unfit_world F_unfit_world b_len T_State b_any b_zip D_width 
  have D_unfit_world : DF P w K mg base 2 "unfit_world" (spUnW CS CG) := ⟨_, _, _, PySem.W.mg_of X G a_unfit_world, F_unfit_world.kp, bn_unfit_world F_unfit_world, O_unfit_world⟩
  obtain ⟨fd_answer_of_value, F_answer_of_value⟩ := d_answer_of_value.def_
  have O_answer_of_value : FnOk P w K mg base CX0 6 f_answer_of_value fd_answer_of_value ["state", "numbers"] (spValue CS CG) := ok_answer_of_value F_answer_of_value D_has g_NO_TERM D_unfit_world g_UNFIT M_Worlds D_number_of D_fitting D_value_in D_tables_of T_State 
  have D_answer_of_value : DF P w K mg base 6 "answer_of_value" (spValue CS CG) := ⟨_, _, _, PySem.W.mg_of X G a_answer_of_value, F_answer_of_value.kp, bn_answer_of_value F_answer_of_value, O_answer_of_value⟩
  obtain ⟨fd_answer_of_asking, F_answer_of_asking⟩ := d_answer_of_asking.def_
  have hAsk : ∀ c, c < 4 → ∃ f sp, ([.ref f_answer_of_decide, .ref f_answer_of_same, .ref f_answer_of_range, .ref f_answer_of_count] : List V)[c]? = some (.ref f) ∧ Hld P w K mg base 6 f sp ∧ ∀ vs H Q E, spAsk CS CG c vs H Q E → sp vs H Q E := by
    intro c hc
    match c, hc with
    | 0, _ => exact ⟨_, _, rfl, H_answer_of_decide.mono (by decide), ask0⟩
    | 1, _ => exact ⟨_, _, rfl, H_answer_of_same.mono (by decide), ask1⟩
    | 2, _ => exact ⟨_, _, rfl, H_answer_of_range.mono (by decide), ask2⟩
    | 3, _ => exact ⟨_, _, rfl, H_answer_of_count.mono (by decide), ask3⟩
  have O_answer_of_asking : FnOk P w K mg base CX0 7 f_answer_of_asking fd_answer_of_asking ["state", "which", "numbers"] (spAsking CS CG) := ok_answer_of_asking F_answer_of_asking m_ASKERS (e_ASKERS.tup (.cons rr (.cons rr (.cons rr (.cons rr (.nil))))) (by show 4 ≤ sizeLine; decide)) hAsk
  have D_answer_of_asking : DF P w K mg base 7 "answer_of_asking" (spAsking CS CG) := ⟨_, _, _, PySem.W.mg_of X G a_answer_of_asking, F_answer_of_asking.kp, bn_answer_of_asking F_answer_of_asking, O_answer_of_asking⟩
  obtain ⟨fd_Gates_pair, F_Gates_pair⟩ := d_Gates_pair.def_
  have O_Gates_pair : FnOk P w K mg base CX0 1 f_Gates_pair fd_Gates_pair ["self", "n"] (spPair CG) := ok_Gates_pair F_Gates_pair T_Gates 
  have D_pair : DM P w K mg base CG 1 "pair" (spPair CG) := ⟨_, _, _, ⟨pg_Gates, hd_Gates, po_Gates, sa_Gates⟩, ⟨a_Gates_pair, i_Gates_pair, F_Gates_pair.kp⟩, bn_Gates_pair F_Gates_pair, O_Gates_pair⟩
  obtain ⟨fd_in_clause, F_in_clause⟩ := d_in_clause.def_
  have O_in_clause : FnOk P w K mg base CX0 1 f_in_clause fd_in_clause ["literal"] (spSign) := ok_in_clause F_in_clause  
  have D_in_clause : DF P w K mg base 1 "in_clause" (spSign) := ⟨_, _, _, PySem.W.mg_of X G a_in_clause, F_in_clause.kp, bn_in_clause F_in_clause, O_in_clause⟩
  obtain ⟨fd_clauses_of_gate, F_clauses_of_gate⟩ := d_clauses_of_gate.def_
  have O_clauses_of_gate : FnOk P w K mg base CX0 2 f_clauses_of_gate fd_clauses_of_gate ["n", "pair"] (spCoG) := ok_clauses_of_gate F_clauses_of_gate D_in_clause 
  have D_clauses_of_gate : DF P w K mg base 2 "clauses_of_gate" (spCoG) := ⟨_, _, _, PySem.W.mg_of X G a_clauses_of_gate, F_clauses_of_gate.kp, bn_clauses_of_gate F_clauses_of_gate, O_clauses_of_gate⟩
  obtain ⟨fd_clauses_of_claim, F_clauses_of_claim⟩ := d_clauses_of_claim.def_
  have O_clauses_of_claim : FnOk P w K mg base CX0 2 f_clauses_of_claim fd_clauses_of_claim ["literal"] (spCoC) := ok_clauses_of_claim F_clauses_of_claim g_ALWAYS g_NEVER D_in_clause 
  have D_clauses_of_claim : DF P w K mg base 2 "clauses_of_claim" (spCoC) := ⟨_, _, _, PySem.W.mg_of X G a_clauses_of_claim, F_clauses_of_claim.kp, bn_clauses_of_claim F_clauses_of_claim, O_clauses_of_claim⟩
  obtain ⟨fd_needed_nodes, F_needed_nodes⟩ := d_needed_nodes.def_
  have O_needed_nodes : FnOk P w K mg base CX0 2 f_needed_nodes fd_needed_nodes ["state"] (spNeed CS CG) := ok_needed_nodes F_needed_nodes T_State D_size b_range D_pair 
  have D_needed_nodes : DF P w K mg base 2 "needed_nodes" (spNeed CS CG) := ⟨_, _, _, PySem.W.mg_of X G a_needed_nodes, F_needed_nodes.kp, bn_needed_nodes F_needed_nodes, O_needed_nodes⟩
  obtain ⟨fd_all_clauses, F_all_clauses⟩ := d_all_clauses.def_
  have O_all_clauses : FnOk P w K mg base CX0 3 f_all_clauses fd_all_clauses ["state"] (spAllC CS CG) := ok_all_clauses F_all_clauses D_needed_nodes T_State D_pair D_clauses_of_gate D_clauses_of_claim 
  have D_all_clauses : DF P w K mg base 3 "all_clauses" (spAllC CS CG) := ⟨_, _, _, PySem.W.mg_of X G a_all_clauses, F_all_clauses.kp, bn_all_clauses F_all_clauses, O_all_clauses⟩
  obtain ⟨fd_holds, F_holds⟩ := d_holds.def_
  have O_holds : FnOk P w K mg base CX0 1 f_holds fd_holds ["clause", "told"] (spHolds) := ok_holds F_holds b_abs 
  have D_holds : DF P w K mg base 1 "holds" (spHolds) := ⟨_, _, _, PySem.W.mg_of X G a_holds, F_holds.kp, bn_holds F_holds, O_holds⟩
  obtain ⟨fd_answer_of_bits, F_answer_of_bits⟩ := d_answer_of_bits.def_
  have O_answer_of_bits : FnOk P w K mg base CX0 2 f_answer_of_bits fd_answer_of_bits ["state", "numbers"] (spBitsC CS CG) := ok_answer_of_bits F_answer_of_bits D_has g_NO_TERM T_State b_len 
  have D_answer_of_bits : DF P w K mg base 2 "answer_of_bits" (spBitsC CS CG) := ⟨_, _, _, PySem.W.mg_of X G a_answer_of_bits, F_answer_of_bits.kp, bn_answer_of_bits F_answer_of_bits, O_answer_of_bits⟩
  have H_answer_of_bits : Hld P w K mg base 2 f_answer_of_bits (spBitsC CS CG) := ⟨_, _, O_answer_of_bits, F_answer_of_bits.kp, bn_answer_of_bits F_answer_of_bits⟩
  obtain ⟨fd_answer_of_node, F_answer_of_node⟩ := d_answer_of_node.def_
  have O_answer_of_node : FnOk P w K mg base CX0 2 f_answer_of_node fd_answer_of_node ["state", "numbers"] (spNode CS CG) := ok_answer_of_node F_answer_of_node T_State D_size g_NO_NODE D_pair 
  have D_answer_of_node : DF P w K mg base 2 "answer_of_node" (spNode CS CG) := ⟨_, _, _, PySem.W.mg_of X G a_answer_of_node, F_answer_of_node.kp, bn_answer_of_node F_answer_of_node, O_answer_of_node⟩
  have H_answer_of_node : Hld P w K mg base 2 f_answer_of_node (spNode CS CG) := ⟨_, _, O_answer_of_node, F_answer_of_node.kp, bn_answer_of_node F_answer_of_node⟩
  obtain ⟨fd_answer_of_sizes, F_answer_of_sizes⟩ := d_answer_of_sizes.def_
  have O_answer_of_sizes : FnOk P w K mg base CX0 4 f_answer_of_sizes fd_answer_of_sizes ["state", "numbers"] (spSizes CS CG) := ok_answer_of_sizes F_answer_of_sizes T_State D_size b_len D_all_clauses D_needed_nodes D_bits_of_inputs 
  have D_answer_of_sizes : DF P w K mg base 4 "answer_of_sizes" (spSizes CS CG) := ⟨_, _, _, PySem.W.mg_of X G a_answer_of_sizes, F_answer_of_sizes.kp, bn_answer_of_sizes F_answer_of_sizes, O_answer_of_sizes⟩
  have H_answer_of_sizes : Hld P w K mg base 4 f_answer_of_sizes (spSizes CS CG) := ⟨_, _, O_answer_of_sizes, F_answer_of_sizes.kp, bn_answer_of_sizes F_answer_of_sizes⟩
  obtain ⟨fd_answer_of_clauses, F_answer_of_clauses⟩ := d_answer_of_clauses.def_
  have O_answer_of_clauses : FnOk P w K mg base CX0 4 f_answer_of_clauses fd_answer_of_clauses ["state", "numbers"] (spClauses CS CG) := ok_answer_of_clauses F_answer_of_clauses D_all_clauses b_len 
  have D_answer_of_clauses : DF P w K mg base 4 "answer_of_clauses" (spClauses CS CG) := ⟨_, _, _, PySem.W.mg_of X G a_answer_of_clauses, F_answer_of_clauses.kp, bn_answer_of_clauses F_answer_of_clauses, O_answer_of_clauses⟩
  have H_answer_of_clauses : Hld P w K mg base 4 f_answer_of_clauses (spClauses CS CG) := ⟨_, _, O_answer_of_clauses, F_answer_of_clauses.kp, bn_answer_of_clauses F_answer_of_clauses⟩
  obtain ⟨fd_value_read, F_value_read⟩ := d_value_read.def_
  have O_value_read : FnOk P w K mg base CX0 1 f_value_read fd_value_read ["word", "told"] (spVRead) := ok_value_read F_value_read b_sum b_enumerate 
  have D_value_read : DF P w K mg base 1 "value_read" (spVRead) := ⟨_, _, _, PySem.W.mg_of X G a_value_read, F_value_read.kp, bn_value_read F_value_read, O_value_read⟩
  obtain ⟨fd_answer_of_reads, F_answer_of_reads⟩ := d_answer_of_reads.def_
  have O_answer_of_reads : FnOk P w K mg base CX0 4 f_answer_of_reads fd_answer_of_reads ["state", "numbers"] (spReads CS CG) := ok_answer_of_reads F_answer_of_reads D_needed_nodes b_any b_len g_UNFIT b_dict b_zip b_enumerate D_all_clauses D_holds T_State D_value_read 
  have D_answer_of_reads : DF P w K mg base 4 "answer_of_reads" (spReads CS CG) := ⟨_, _, _, PySem.W.mg_of X G a_answer_of_reads, F_answer_of_reads.kp, bn_answer_of_reads F_answer_of_reads, O_answer_of_reads⟩
  have H_answer_of_reads : Hld P w K mg base 4 f_answer_of_reads (spReads CS CG) := ⟨_, _, O_answer_of_reads, F_answer_of_reads.kp, bn_answer_of_reads F_answer_of_reads⟩
  obtain ⟨fd_answer_of_showing, F_answer_of_showing⟩ := d_answer_of_showing.def_
  have hShow : ∀ c, c < 5 → ∃ f sp, ([.ref f_answer_of_bits, .ref f_answer_of_node, .ref f_answer_of_sizes, .ref f_answer_of_clauses, .ref f_answer_of_reads] : List V)[c]? = some (.ref f) ∧ Hld P w K mg base 4 f sp ∧ ∀ vs H Q E, spShow CS CG c vs H Q E → sp vs H Q E := by
    intro c hc
    match c, hc with
    | 0, _ => exact ⟨_, _, rfl, H_answer_of_bits.mono (by decide), show0⟩
    | 1, _ => exact ⟨_, _, rfl, H_answer_of_node.mono (by decide), show1⟩
    | 2, _ => exact ⟨_, _, rfl, H_answer_of_sizes.mono (by decide), show2⟩
    | 3, _ => exact ⟨_, _, rfl, H_answer_of_clauses.mono (by decide), show3⟩
    | 4, _ => exact ⟨_, _, rfl, H_answer_of_reads.mono (by decide), show4⟩
  have O_answer_of_showing : FnOk P w K mg base CX0 5 f_answer_of_showing fd_answer_of_showing ["state", "which", "numbers"] (spShowing CS CG) := ok_answer_of_showing F_answer_of_showing m_SHOWERS (e_SHOWERS.tup (.cons rr (.cons rr (.cons rr (.cons rr (.cons rr (.nil)))))) (by show 5 ≤ sizeLine; decide)) hShow
  have D_answer_of_showing : DF P w K mg base 5 "answer_of_showing" (spShowing CS CG) := ⟨_, _, _, PySem.W.mg_of X G a_answer_of_showing, F_answer_of_showing.kp, bn_answer_of_showing F_answer_of_showing, O_answer_of_showing⟩
  obtain ⟨fd_StateI_initI, F_StateI_initI⟩ := d_StateI_initI.def_
  have O_StateI_initI : FnOk P w K mg base CX0 3 f_StateI_initI fd_StateI_initI ["self"] (spSInit CS CG) := ok_StateI_initI F_StateI_initI T_State M_Gates 
  have M_State : DK P w K mg base CS 3 "State" (spSInit CS CG) := ⟨_, _, _, ⟨mk_State, a_StateI_initI, i_StateI_initI, kc_State⟩, PySem.W.mg_of X G aC_State, bn_StateI_initI F_StateI_initI, O_StateI_initI⟩
  obtain ⟨fd_State_back_to_mark, F_State_back_to_mark⟩ := d_State_back_to_mark.def_
  have O_State_back_to_mark : FnOk P w K mg base CX0 2 f_State_back_to_mark fd_State_back_to_mark ["self"] (spBack CS CG) := ok_State_back_to_mark F_State_back_to_mark T_State D_shrink 
  have D_back_to_mark : DM P w K mg base CS 2 "back_to_mark" (spBack CS CG) := ⟨_, _, _, ⟨pg_State, hd_State, po_State, sa_State⟩, ⟨a_State_back_to_mark, i_State_back_to_mark, F_State_back_to_mark.kp⟩, bn_State_back_to_mark F_State_back_to_mark, O_State_back_to_mark⟩
  obtain ⟨fd_answer_of_undo, F_answer_of_undo⟩ := d_answer_of_undo.def_
  have O_answer_of_undo : FnOk P w K mg base CX0 3 f_answer_of_undo fd_answer_of_undo ["state", "numbers"] (spUndo CS CG) := ok_answer_of_undo F_answer_of_undo b_len T_State g_NO_MARK D_back_to_mark 
  have D_answer_of_undo : DF P w K mg base 3 "answer_of_undo" (spUndo CS CG) := ⟨_, _, _, PySem.W.mg_of X G a_answer_of_undo, F_answer_of_undo.kp, bn_answer_of_undo F_answer_of_undo, O_answer_of_undo⟩
  have H_answer_of_undo : Hld P w K mg base 3 f_answer_of_undo (spUndo CS CG) := ⟨_, _, O_answer_of_undo, F_answer_of_undo.kp, bn_answer_of_undo F_answer_of_undo⟩
  obtain ⟨fd_answer_of_call, F_answer_of_call⟩ := d_answer_of_call.def_
  have hKeep : ∀ c, c < 3 → ∃ f sp, ([.ref f_answer_of_claim, .ref f_answer_of_mark, .ref f_answer_of_undo] : List V)[c]? = some (.ref f) ∧ Hld P w K mg base 3 f sp ∧ ∀ vs H Q E, spKeep CS CG c vs H Q E → sp vs H Q E := by
    intro c hc
    match c, hc with
    | 0, _ => exact ⟨_, _, rfl, H_answer_of_claim.mono (by decide), keep0⟩
    | 1, _ => exact ⟨_, _, rfl, H_answer_of_mark.mono (by decide), keep1⟩
    | 2, _ => exact ⟨_, _, rfl, H_answer_of_undo.mono (by decide), keep2⟩
  have O_answer_of_call : FnOk P w K mg base CX0 12 f_answer_of_call fd_answer_of_call ["state", "call", "numbers"] (spCall CS CG) := ok_answer_of_call F_answer_of_call g_CLAIM_CALL D_answer_of_term g_DECIDE_CALL m_KEEPERS g_BITS_CALL D_answer_of_asking g_VALUE_CALL D_answer_of_showing D_answer_of_value (e_KEEPERS.tup (.cons rr (.cons rr (.cons rr (.nil)))) (by show 3 ≤ sizeLine; decide)) hKeep
  have D_answer_of_call : DF P w K mg base 12 "answer_of_call" (spCall CS CG) := ⟨_, _, _, PySem.W.mg_of X G a_answer_of_call, F_answer_of_call.kp, bn_answer_of_call F_answer_of_call, O_answer_of_call⟩
  have O_answers : FnOk P w K mg base CX0 13 f_answers fd_answers ["calls"] (spAns K) := ok_answers F_answers M_State b_len m_SIZES m_ROW_CALLS D_answer_of_call e_SIZES e_ROW_CALLS
  have D_answers : DF P w K mg base 13 "answers" (spAns K) := ⟨_, _, _, PySem.W.mg_of X G a_answers, F_answers.kp, bn_answers F_answers, O_answers⟩
  exact O_answers.mono (by decide)
end BC

open PySem PySem.W PyProof.Rows
set_option Elab.async false
set_option maxRecDepth 100000 in
set_option maxHeartbeats 80000000 in
theorem PySem.Challenge.cw_bitclauses_s01_answers_holds : PySem.Challenge.rw_bitclauses_s01_answers.Holds := by
  w_on; k_headS; (case hw => exact ⟨[.list [.int 11]], by decide +kernel, by decide +kernel⟩)
  k_fillS
  refine L2.walk_specK (r := PySem.Challenge.rw_bitclauses_s01_answers) (k := 30) (CX := L2.CX0) (ps := ["calls"]) (sp := BC.spAns) (by decide +kernel) rfl rfl ⟨rfl, by decide, by decide⟩ (fun w h Y => PySem.W.kIn_of Y) ?F ?S (fun _ _ _ _ z => z)
  case F =>
    intro w mg fa h Y KX G hmg
    refine' BC.all_mk KX G hmg ?aC_Gates ?pg_Gates ?hd_Gates ?po_Gates ?sa_Gates ?mk_Gates ?kc_Gates ?nN_Gates ?nK_Gates ?aC_State ?pg_State ?hd_State ?po_State ?sa_State ?mk_State ?kc_State ?nG_State ?nT_State ?nI_State ?nC_State ?nM_State ?aC_Worlds ?pg_Worlds ?hd_Worlds ?po_Worlds ?sa_Worlds ?mk_Worlds ?kc_Worlds ?nW_Worlds ?nA_Worlds ?nE_Worlds ?nT_Worlds ?a_NEVER ?a_ALWAYS ?a_MOST_WIDTH ?a_NO_TERM ?a_UNFIT ?a_MOST_TERMS ?a_FULL ?a_MOST_INPUT_BITS ?a_INPUT_CALL ?a_TOO_MANY_INPUT_BITS ?a_MOST_NODES ?a_TOO_MANY_NODES ?a_MOST_CLAIMS ?a_MOST_MARKS ?a_NO_NODE ?a_NO_MARK ?a_CLAIM_CALL ?a_DECIDE_CALL ?a_BITS_CALL ?a_VALUE_CALL ?z_abs ?z_any ?z_dict ?z_enumerate ?z_len ?z_max ?z_min ?z_range ?z_reversed ?z_sum ?z_zip ?a_opposite ?d_opposite ?a_Gates_size ?i_Gates_size ?d_Gates_size ?a_Gates_fresh ?i_Gates_fresh ?d_Gates_fresh ?a_Gates_gate ?i_Gates_gate ?d_Gates_gate ?a_Gates_both ?i_Gates_both ?d_Gates_both ?a_Gates_either ?i_Gates_either ?d_Gates_either ?a_Gates_odd ?i_Gates_odd ?d_Gates_odd ?a_Gates_chosen ?i_Gates_chosen ?d_Gates_chosen ?a_zeros ?d_zeros ?a_opposites ?d_opposites ?a_chosen_word ?d_chosen_word ?a_word_and ?d_word_and ?a_word_or ?d_word_or ?a_word_xor ?d_word_xor ?a_added ?d_added ?a_taken ?d_taken ?a_word_neg ?d_word_neg ?a_word_add ?d_word_add ?a_word_sub ?d_word_sub ?a_moved_up ?d_moved_up ?a_moved_down ?d_moved_down ?a_word_shl ?d_word_shl ?a_stepped_down ?d_stepped_down ?a_word_shr ?d_word_shr ?a_word_sar ?d_word_sar ?a_word_eq ?d_word_eq ?a_word_ult ?d_word_ult ?a_sign_turned ?d_sign_turned ?a_word_slt ?d_word_slt ?a_word_mul ?d_word_mul ?a_divided ?d_divided ?a_word_div ?d_word_div ?a_word_rem ?d_word_rem ?a_word_two ?d_word_two ?a_State_has ?i_State_has ?d_State_has ?a_State_width ?i_State_width ?d_State_width ?a_State_bits_of_inputs ?i_State_bits_of_inputs ?d_State_bits_of_inputs ?a_bad_width ?d_bad_width ?a_unfit_input ?d_unfit_input ?a_unfit_const ?d_unfit_const ?a_unfit_one ?d_unfit_one ?a_unfit_two ?d_unfit_two ?a_unfit_join ?d_unfit_join ?a_unfit_cut ?d_unfit_cut ?a_unfit_wider ?d_unfit_wider ?a_unfit_pick ?d_unfit_pick ?a_make_input ?d_make_input ?a_make_const ?d_make_const ?a_make_not ?d_make_not ?a_make_neg ?d_make_neg ?a_make_two ?d_make_two ?a_make_join ?d_make_join ?a_make_cut ?d_make_cut ?a_make_zext ?d_make_zext ?a_make_sext ?d_make_sext ?a_make_pick ?d_make_pick ?a_Gates_shrink ?i_Gates_shrink ?d_Gates_shrink ?a_refusal_of_term ?d_refusal_of_term ?a_answer_of_term ?d_answer_of_term ?a_GatesI_initI ?i_GatesI_initI ?d_GatesI_initI ?a_State_put_mark ?i_State_put_mark ?d_State_put_mark ?a_answer_of_claim ?d_answer_of_claim ?a_answer_of_mark ?d_answer_of_mark ?a_Worlds_where ?i_Worlds_where ?d_Worlds_where ?a_Worlds_where_bit_is ?i_Worlds_where_bit_is ?d_Worlds_where_bit_is ?a_Worlds_listed ?i_Worlds_listed ?d_Worlds_listed ?a_Worlds_tables_of ?i_Worlds_tables_of ?d_Worlds_tables_of ?a_value_in ?d_value_in ?a_Worlds_fitting ?i_Worlds_fitting ?d_Worlds_fitting ?a_Worlds_differing ?i_Worlds_differing ?d_Worlds_differing ?a_Worlds_number_of ?i_Worlds_number_of ?d_Worlds_number_of ?a_Worlds_inputs_in ?i_Worlds_inputs_in ?d_Worlds_inputs_in ?a_inputs_told ?d_inputs_told ?a_places_of_bits ?d_places_of_bits ?a_WorldsI_initI ?i_WorldsI_initI ?d_WorldsI_initI ?a_answer_of_decide ?d_answer_of_decide ?a_answer_of_count ?d_answer_of_count ?a_answer_of_same ?d_answer_of_same ?a_answer_of_range ?d_answer_of_range ?a_unfit_world ?d_unfit_world ?a_answer_of_value ?d_answer_of_value ?a_answer_of_asking ?d_answer_of_asking ?a_Gates_pair ?i_Gates_pair ?d_Gates_pair ?a_in_clause ?d_in_clause ?a_clauses_of_gate ?d_clauses_of_gate ?a_clauses_of_claim ?d_clauses_of_claim ?a_needed_nodes ?d_needed_nodes ?a_all_clauses ?d_all_clauses ?a_holds ?d_holds ?a_answer_of_bits ?d_answer_of_bits ?a_answer_of_node ?d_answer_of_node ?a_answer_of_sizes ?d_answer_of_sizes ?a_answer_of_clauses ?d_answer_of_clauses ?a_value_read ?d_value_read ?a_answer_of_reads ?d_answer_of_reads ?a_answer_of_showing ?d_answer_of_showing ?a_StateI_initI ?i_StateI_initI ?d_StateI_initI ?a_State_back_to_mark ?i_State_back_to_mark ?d_State_back_to_mark ?a_answer_of_undo ?d_answer_of_undo ?a_answer_of_call ?d_answer_of_call ?a_answers ?d_answers ?a_ASKERS ?e_ASKERS ?a_KEEPERS ?e_KEEPERS ?a_MAKERS ?e_MAKERS ?a_NAMED ?e_NAMED ?e_NAMED_0 ?e_NAMED_1 ?e_NAMED_2 ?e_NAMED_3 ?e_NAMED_4 ?e_NAMED_5 ?e_NAMED_6 ?e_NAMED_7 ?e_NAMED_8 ?e_NAMED_9 ?a_ROW_CALLS ?e_ROW_CALLS ?a_SHOWERS ?e_SHOWERS ?a_SIZES ?e_SIZES ?a_TWO ?e_TWO ?a_UNFITS ?e_UNFITS
    (case aC_Gates => k_is)
    (case pg_Gates => k_is)
    (case hd_Gates => k_is)
    (case po_Gates => k_is)
    (case sa_Gates => k_is)
    (case mk_Gates => k_is)
    (case kc_Gates => k_is)
    (case nN_Gates => k_is)
    (case nK_Gates => k_is)
    (case aC_State => k_is)
    (case pg_State => k_is)
    (case hd_State => k_is)
    (case po_State => k_is)
    (case sa_State => k_is)
    (case mk_State => k_is)
    (case kc_State => k_is)
    (case nG_State => k_is)
    (case nT_State => k_is)
    (case nI_State => k_is)
    (case nC_State => k_is)
    (case nM_State => k_is)
    (case aC_Worlds => k_is)
    (case pg_Worlds => k_is)
    (case hd_Worlds => k_is)
    (case po_Worlds => k_is)
    (case sa_Worlds => k_is)
    (case mk_Worlds => k_is)
    (case kc_Worlds => k_is)
    (case nW_Worlds => k_is)
    (case nA_Worlds => k_is)
    (case nE_Worlds => k_is)
    (case nT_Worlds => k_is)
    (case a_NEVER => k_is)
    (case a_ALWAYS => k_is)
    (case a_MOST_WIDTH => k_is)
    (case a_NO_TERM => k_is)
    (case a_UNFIT => k_is)
    (case a_MOST_TERMS => k_is)
    (case a_FULL => k_is)
    (case a_MOST_INPUT_BITS => k_is)
    (case a_INPUT_CALL => k_is)
    (case a_TOO_MANY_INPUT_BITS => k_is)
    (case a_MOST_NODES => k_is)
    (case a_TOO_MANY_NODES => k_is)
    (case a_MOST_CLAIMS => k_is)
    (case a_MOST_MARKS => k_is)
    (case a_NO_NODE => k_is)
    (case a_NO_MARK => k_is)
    (case a_CLAIM_CALL => k_is)
    (case a_DECIDE_CALL => k_is)
    (case a_BITS_CALL => k_is)
    (case a_VALUE_CALL => k_is)
    (case z_abs => k_is)
    (case z_any => k_is)
    (case z_dict => k_is)
    (case z_enumerate => k_is)
    (case z_len => k_is)
    (case z_max => k_is)
    (case z_min => k_is)
    (case z_range => k_is)
    (case z_reversed => k_is)
    (case z_sum => k_is)
    (case z_zip => k_is)
    (case a_opposite => k_is)
    (case d_opposite => (refine' BC.defAt_mk ?l ?c ?k; (case l => k_is); (case c => k_is); (case k => k_is)))
    (case a_Gates_size => k_is)
    (case i_Gates_size => k_is)
    (case d_Gates_size => (refine' BC.defAt_mk ?l ?c ?k; (case l => k_is); (case c => k_is); (case k => k_is)))
    (case a_Gates_fresh => k_is)
    (case i_Gates_fresh => k_is)
    (case d_Gates_fresh => (refine' BC.defAt_mk ?l ?c ?k; (case l => k_is); (case c => k_is); (case k => k_is)))
    (case a_Gates_gate => k_is)
    (case i_Gates_gate => k_is)
    (case d_Gates_gate => (refine' BC.defAt_mk ?l ?c ?k; (case l => k_is); (case c => k_is); (case k => k_is)))
    (case a_Gates_both => k_is)
    (case i_Gates_both => k_is)
    (case d_Gates_both => (refine' BC.defAt_mk ?l ?c ?k; (case l => k_is); (case c => k_is); (case k => k_is)))
    (case a_Gates_either => k_is)
    (case i_Gates_either => k_is)
    (case d_Gates_either => (refine' BC.defAt_mk ?l ?c ?k; (case l => k_is); (case c => k_is); (case k => k_is)))
    (case a_Gates_odd => k_is)
    (case i_Gates_odd => k_is)
    (case d_Gates_odd => (refine' BC.defAt_mk ?l ?c ?k; (case l => k_is); (case c => k_is); (case k => k_is)))
    (case a_Gates_chosen => k_is)
    (case i_Gates_chosen => k_is)
    (case d_Gates_chosen => (refine' BC.defAt_mk ?l ?c ?k; (case l => k_is); (case c => k_is); (case k => k_is)))
    (case a_zeros => k_is)
    (case d_zeros => (refine' BC.defAt_mk ?l ?c ?k; (case l => k_is); (case c => k_is); (case k => k_is)))
    (case a_opposites => k_is)
    (case d_opposites => (refine' BC.defAt_mk ?l ?c ?k; (case l => k_is); (case c => k_is); (case k => k_is)))
    (case a_chosen_word => k_is)
    (case d_chosen_word => (refine' BC.defAt_mk ?l ?c ?k; (case l => k_is); (case c => k_is); (case k => k_is)))
    (case a_word_and => k_is)
    (case d_word_and => (refine' BC.defAt_mk ?l ?c ?k; (case l => k_is); (case c => k_is); (case k => k_is)))
    (case a_word_or => k_is)
    (case d_word_or => (refine' BC.defAt_mk ?l ?c ?k; (case l => k_is); (case c => k_is); (case k => k_is)))
    (case a_word_xor => k_is)
    (case d_word_xor => (refine' BC.defAt_mk ?l ?c ?k; (case l => k_is); (case c => k_is); (case k => k_is)))
    (case a_added => k_is)
    (case d_added => (refine' BC.defAt_mk ?l ?c ?k; (case l => k_is); (case c => k_is); (case k => k_is)))
    (case a_taken => k_is)
    (case d_taken => (refine' BC.defAt_mk ?l ?c ?k; (case l => k_is); (case c => k_is); (case k => k_is)))
    (case a_word_neg => k_is)
    (case d_word_neg => (refine' BC.defAt_mk ?l ?c ?k; (case l => k_is); (case c => k_is); (case k => k_is)))
    (case a_word_add => k_is)
    (case d_word_add => (refine' BC.defAt_mk ?l ?c ?k; (case l => k_is); (case c => k_is); (case k => k_is)))
    (case a_word_sub => k_is)
    (case d_word_sub => (refine' BC.defAt_mk ?l ?c ?k; (case l => k_is); (case c => k_is); (case k => k_is)))
    (case a_moved_up => k_is)
    (case d_moved_up => (refine' BC.defAt_mk ?l ?c ?k; (case l => k_is); (case c => k_is); (case k => k_is)))
    (case a_moved_down => k_is)
    (case d_moved_down => (refine' BC.defAt_mk ?l ?c ?k; (case l => k_is); (case c => k_is); (case k => k_is)))
    (case a_word_shl => k_is)
    (case d_word_shl => (refine' BC.defAt_mk ?l ?c ?k; (case l => k_is); (case c => k_is); (case k => k_is)))
    (case a_stepped_down => k_is)
    (case d_stepped_down => (refine' BC.defAt_mk ?l ?c ?k; (case l => k_is); (case c => k_is); (case k => k_is)))
    (case a_word_shr => k_is)
    (case d_word_shr => (refine' BC.defAt_mk ?l ?c ?k; (case l => k_is); (case c => k_is); (case k => k_is)))
    (case a_word_sar => k_is)
    (case d_word_sar => (refine' BC.defAt_mk ?l ?c ?k; (case l => k_is); (case c => k_is); (case k => k_is)))
    (case a_word_eq => k_is)
    (case d_word_eq => (refine' BC.defAt_mk ?l ?c ?k; (case l => k_is); (case c => k_is); (case k => k_is)))
    (case a_word_ult => k_is)
    (case d_word_ult => (refine' BC.defAt_mk ?l ?c ?k; (case l => k_is); (case c => k_is); (case k => k_is)))
    (case a_sign_turned => k_is)
    (case d_sign_turned => (refine' BC.defAt_mk ?l ?c ?k; (case l => k_is); (case c => k_is); (case k => k_is)))
    (case a_word_slt => k_is)
    (case d_word_slt => (refine' BC.defAt_mk ?l ?c ?k; (case l => k_is); (case c => k_is); (case k => k_is)))
    (case a_word_mul => k_is)
    (case d_word_mul => (refine' BC.defAt_mk ?l ?c ?k; (case l => k_is); (case c => k_is); (case k => k_is)))
    (case a_divided => k_is)
    (case d_divided => (refine' BC.defAt_mk ?l ?c ?k; (case l => k_is); (case c => k_is); (case k => k_is)))
    (case a_word_div => k_is)
    (case d_word_div => (refine' BC.defAt_mk ?l ?c ?k; (case l => k_is); (case c => k_is); (case k => k_is)))
    (case a_word_rem => k_is)
    (case d_word_rem => (refine' BC.defAt_mk ?l ?c ?k; (case l => k_is); (case c => k_is); (case k => k_is)))
    (case a_word_two => k_is)
    (case d_word_two => (refine' BC.defAt_mk ?l ?c ?k; (case l => k_is); (case c => k_is); (case k => k_is)))
    (case a_State_has => k_is)
    (case i_State_has => k_is)
    (case d_State_has => (refine' BC.defAt_mk ?l ?c ?k; (case l => k_is); (case c => k_is); (case k => k_is)))
    (case a_State_width => k_is)
    (case i_State_width => k_is)
    (case d_State_width => (refine' BC.defAt_mk ?l ?c ?k; (case l => k_is); (case c => k_is); (case k => k_is)))
    (case a_State_bits_of_inputs => k_is)
    (case i_State_bits_of_inputs => k_is)
    (case d_State_bits_of_inputs => (refine' BC.defAt_mk ?l ?c ?k; (case l => k_is); (case c => k_is); (case k => k_is)))
    (case a_bad_width => k_is)
    (case d_bad_width => (refine' BC.defAt_mk ?l ?c ?k; (case l => k_is); (case c => k_is); (case k => k_is)))
    (case a_unfit_input => k_is)
    (case d_unfit_input => (refine' BC.defAt_mk ?l ?c ?k; (case l => k_is); (case c => k_is); (case k => k_is)))
    (case a_unfit_const => k_is)
    (case d_unfit_const => (refine' BC.defAt_mk ?l ?c ?k; (case l => k_is); (case c => k_is); (case k => k_is)))
    (case a_unfit_one => k_is)
    (case d_unfit_one => (refine' BC.defAt_mk ?l ?c ?k; (case l => k_is); (case c => k_is); (case k => k_is)))
    (case a_unfit_two => k_is)
    (case d_unfit_two => (refine' BC.defAt_mk ?l ?c ?k; (case l => k_is); (case c => k_is); (case k => k_is)))
    (case a_unfit_join => k_is)
    (case d_unfit_join => (refine' BC.defAt_mk ?l ?c ?k; (case l => k_is); (case c => k_is); (case k => k_is)))
    (case a_unfit_cut => k_is)
    (case d_unfit_cut => (refine' BC.defAt_mk ?l ?c ?k; (case l => k_is); (case c => k_is); (case k => k_is)))
    (case a_unfit_wider => k_is)
    (case d_unfit_wider => (refine' BC.defAt_mk ?l ?c ?k; (case l => k_is); (case c => k_is); (case k => k_is)))
    (case a_unfit_pick => k_is)
    (case d_unfit_pick => (refine' BC.defAt_mk ?l ?c ?k; (case l => k_is); (case c => k_is); (case k => k_is)))
    (case a_make_input => k_is)
    (case d_make_input => (refine' BC.defAt_mk ?l ?c ?k; (case l => k_is); (case c => k_is); (case k => k_is)))
    (case a_make_const => k_is)
    (case d_make_const => (refine' BC.defAt_mk ?l ?c ?k; (case l => k_is); (case c => k_is); (case k => k_is)))
    (case a_make_not => k_is)
    (case d_make_not => (refine' BC.defAt_mk ?l ?c ?k; (case l => k_is); (case c => k_is); (case k => k_is)))
    (case a_make_neg => k_is)
    (case d_make_neg => (refine' BC.defAt_mk ?l ?c ?k; (case l => k_is); (case c => k_is); (case k => k_is)))
    (case a_make_two => k_is)
    (case d_make_two => (refine' BC.defAt_mk ?l ?c ?k; (case l => k_is); (case c => k_is); (case k => k_is)))
    (case a_make_join => k_is)
    (case d_make_join => (refine' BC.defAt_mk ?l ?c ?k; (case l => k_is); (case c => k_is); (case k => k_is)))
    (case a_make_cut => k_is)
    (case d_make_cut => (refine' BC.defAt_mk ?l ?c ?k; (case l => k_is); (case c => k_is); (case k => k_is)))
    (case a_make_zext => k_is)
    (case d_make_zext => (refine' BC.defAt_mk ?l ?c ?k; (case l => k_is); (case c => k_is); (case k => k_is)))
    (case a_make_sext => k_is)
    (case d_make_sext => (refine' BC.defAt_mk ?l ?c ?k; (case l => k_is); (case c => k_is); (case k => k_is)))
    (case a_make_pick => k_is)
    (case d_make_pick => (refine' BC.defAt_mk ?l ?c ?k; (case l => k_is); (case c => k_is); (case k => k_is)))
    (case a_Gates_shrink => k_is)
    (case i_Gates_shrink => k_is)
    (case d_Gates_shrink => (refine' BC.defAt_mk ?l ?c ?k; (case l => k_is); (case c => k_is); (case k => k_is)))
    (case a_refusal_of_term => k_is)
    (case d_refusal_of_term => (refine' BC.defAt_mk ?l ?c ?k; (case l => k_is); (case c => k_is); (case k => k_is)))
    (case a_answer_of_term => k_is)
    (case d_answer_of_term => (refine' BC.defAt_mk ?l ?c ?k; (case l => k_is); (case c => k_is); (case k => k_is)))
    (case a_GatesI_initI => k_is)
    (case i_GatesI_initI => k_is)
    (case d_GatesI_initI => (refine' BC.defAt_mk ?l ?c ?k; (case l => k_is); (case c => k_is); (case k => k_is)))
    (case a_State_put_mark => k_is)
    (case i_State_put_mark => k_is)
    (case d_State_put_mark => (refine' BC.defAt_mk ?l ?c ?k; (case l => k_is); (case c => k_is); (case k => k_is)))
    (case a_answer_of_claim => k_is)
    (case d_answer_of_claim => (refine' BC.defAt_mk ?l ?c ?k; (case l => k_is); (case c => k_is); (case k => k_is)))
    (case a_answer_of_mark => k_is)
    (case d_answer_of_mark => (refine' BC.defAt_mk ?l ?c ?k; (case l => k_is); (case c => k_is); (case k => k_is)))
    (case a_Worlds_where => k_is)
    (case i_Worlds_where => k_is)
    (case d_Worlds_where => (refine' BC.defAt_mk ?l ?c ?k; (case l => k_is); (case c => k_is); (case k => k_is)))
    (case a_Worlds_where_bit_is => k_is)
    (case i_Worlds_where_bit_is => k_is)
    (case d_Worlds_where_bit_is => (refine' BC.defAt_mk ?l ?c ?k; (case l => k_is); (case c => k_is); (case k => k_is)))
    (case a_Worlds_listed => k_is)
    (case i_Worlds_listed => k_is)
    (case d_Worlds_listed => (refine' BC.defAt_mk ?l ?c ?k; (case l => k_is); (case c => k_is); (case k => k_is)))
    (case a_Worlds_tables_of => k_is)
    (case i_Worlds_tables_of => k_is)
    (case d_Worlds_tables_of => (refine' BC.defAt_mk ?l ?c ?k; (case l => k_is); (case c => k_is); (case k => k_is)))
    (case a_value_in => k_is)
    (case d_value_in => (refine' BC.defAt_mk ?l ?c ?k; (case l => k_is); (case c => k_is); (case k => k_is)))
    (case a_Worlds_fitting => k_is)
    (case i_Worlds_fitting => k_is)
    (case d_Worlds_fitting => (refine' BC.defAt_mk ?l ?c ?k; (case l => k_is); (case c => k_is); (case k => k_is)))
    (case a_Worlds_differing => k_is)
    (case i_Worlds_differing => k_is)
    (case d_Worlds_differing => (refine' BC.defAt_mk ?l ?c ?k; (case l => k_is); (case c => k_is); (case k => k_is)))
    (case a_Worlds_number_of => k_is)
    (case i_Worlds_number_of => k_is)
    (case d_Worlds_number_of => (refine' BC.defAt_mk ?l ?c ?k; (case l => k_is); (case c => k_is); (case k => k_is)))
    (case a_Worlds_inputs_in => k_is)
    (case i_Worlds_inputs_in => k_is)
    (case d_Worlds_inputs_in => (refine' BC.defAt_mk ?l ?c ?k; (case l => k_is); (case c => k_is); (case k => k_is)))
    (case a_inputs_told => k_is)
    (case d_inputs_told => (refine' BC.defAt_mk ?l ?c ?k; (case l => k_is); (case c => k_is); (case k => k_is)))
    (case a_places_of_bits => k_is)
    (case d_places_of_bits => (refine' BC.defAt_mk ?l ?c ?k; (case l => k_is); (case c => k_is); (case k => k_is)))
    (case a_WorldsI_initI => k_is)
    (case i_WorldsI_initI => k_is)
    (case d_WorldsI_initI => (refine' BC.defAt_mk ?l ?c ?k; (case l => k_is); (case c => k_is); (case k => k_is)))
    (case a_answer_of_decide => k_is)
    (case d_answer_of_decide => (refine' BC.defAt_mk ?l ?c ?k; (case l => k_is); (case c => k_is); (case k => k_is)))
    (case a_answer_of_count => k_is)
    (case d_answer_of_count => (refine' BC.defAt_mk ?l ?c ?k; (case l => k_is); (case c => k_is); (case k => k_is)))
    (case a_answer_of_same => k_is)
    (case d_answer_of_same => (refine' BC.defAt_mk ?l ?c ?k; (case l => k_is); (case c => k_is); (case k => k_is)))
    (case a_answer_of_range => k_is)
    (case d_answer_of_range => (refine' BC.defAt_mk ?l ?c ?k; (case l => k_is); (case c => k_is); (case k => k_is)))
    (case a_unfit_world => k_is)
    (case d_unfit_world => (refine' BC.defAt_mk ?l ?c ?k; (case l => k_is); (case c => k_is); (case k => k_is)))
    (case a_answer_of_value => k_is)
    (case d_answer_of_value => (refine' BC.defAt_mk ?l ?c ?k; (case l => k_is); (case c => k_is); (case k => k_is)))
    (case a_answer_of_asking => k_is)
    (case d_answer_of_asking => (refine' BC.defAt_mk ?l ?c ?k; (case l => k_is); (case c => k_is); (case k => k_is)))
    (case a_Gates_pair => k_is)
    (case i_Gates_pair => k_is)
    (case d_Gates_pair => (refine' BC.defAt_mk ?l ?c ?k; (case l => k_is); (case c => k_is); (case k => k_is)))
    (case a_in_clause => k_is)
    (case d_in_clause => (refine' BC.defAt_mk ?l ?c ?k; (case l => k_is); (case c => k_is); (case k => k_is)))
    (case a_clauses_of_gate => k_is)
    (case d_clauses_of_gate => (refine' BC.defAt_mk ?l ?c ?k; (case l => k_is); (case c => k_is); (case k => k_is)))
    (case a_clauses_of_claim => k_is)
    (case d_clauses_of_claim => (refine' BC.defAt_mk ?l ?c ?k; (case l => k_is); (case c => k_is); (case k => k_is)))
    (case a_needed_nodes => k_is)
    (case d_needed_nodes => (refine' BC.defAt_mk ?l ?c ?k; (case l => k_is); (case c => k_is); (case k => k_is)))
    (case a_all_clauses => k_is)
    (case d_all_clauses => (refine' BC.defAt_mk ?l ?c ?k; (case l => k_is); (case c => k_is); (case k => k_is)))
    (case a_holds => k_is)
    (case d_holds => (refine' BC.defAt_mk ?l ?c ?k; (case l => k_is); (case c => k_is); (case k => k_is)))
    (case a_answer_of_bits => k_is)
    (case d_answer_of_bits => (refine' BC.defAt_mk ?l ?c ?k; (case l => k_is); (case c => k_is); (case k => k_is)))
    (case a_answer_of_node => k_is)
    (case d_answer_of_node => (refine' BC.defAt_mk ?l ?c ?k; (case l => k_is); (case c => k_is); (case k => k_is)))
    (case a_answer_of_sizes => k_is)
    (case d_answer_of_sizes => (refine' BC.defAt_mk ?l ?c ?k; (case l => k_is); (case c => k_is); (case k => k_is)))
    (case a_answer_of_clauses => k_is)
    (case d_answer_of_clauses => (refine' BC.defAt_mk ?l ?c ?k; (case l => k_is); (case c => k_is); (case k => k_is)))
    (case a_value_read => k_is)
    (case d_value_read => (refine' BC.defAt_mk ?l ?c ?k; (case l => k_is); (case c => k_is); (case k => k_is)))
    (case a_answer_of_reads => k_is)
    (case d_answer_of_reads => (refine' BC.defAt_mk ?l ?c ?k; (case l => k_is); (case c => k_is); (case k => k_is)))
    (case a_answer_of_showing => k_is)
    (case d_answer_of_showing => (refine' BC.defAt_mk ?l ?c ?k; (case l => k_is); (case c => k_is); (case k => k_is)))
    (case a_StateI_initI => k_is)
    (case i_StateI_initI => k_is)
    (case d_StateI_initI => (refine' BC.defAt_mk ?l ?c ?k; (case l => k_is); (case c => k_is); (case k => k_is)))
    (case a_State_back_to_mark => k_is)
    (case i_State_back_to_mark => k_is)
    (case d_State_back_to_mark => (refine' BC.defAt_mk ?l ?c ?k; (case l => k_is); (case c => k_is); (case k => k_is)))
    (case a_answer_of_undo => k_is)
    (case d_answer_of_undo => (refine' BC.defAt_mk ?l ?c ?k; (case l => k_is); (case c => k_is); (case k => k_is)))
    (case a_answer_of_call => k_is)
    (case d_answer_of_call => (refine' BC.defAt_mk ?l ?c ?k; (case l => k_is); (case c => k_is); (case k => k_is)))
    (case a_answers => k_is)
    (case d_answers => (refine' BC.defAt_mk ?l ?c ?k; (case l => k_is); (case c => k_is); (case k => k_is)))
    (case a_ASKERS => k_is)
    (case e_ASKERS => (refine' BC.tupAt_mk ?l; (case l => k_is)))
    (case a_KEEPERS => k_is)
    (case e_KEEPERS => (refine' BC.tupAt_mk ?l; (case l => k_is)))
    (case a_MAKERS => k_is)
    (case e_MAKERS => (refine' BC.tupAt_mk ?l; (case l => k_is)))
    (case a_NAMED => k_is)
    (case e_NAMED => (refine' BC.tupAt_mk ?l; (case l => k_is)))
    (case e_NAMED_0 => (refine' BC.tupI_mk ?l ?v; (case l => k_is); (case v => exact .nil)))
    (case e_NAMED_1 => (refine' BC.tupI_mk ?l ?v; (case l => k_is); (case v => exact .nil)))
    (case e_NAMED_2 => (refine' BC.tupI_mk ?l ?v; (case l => k_is); (case v => exact .cons ⟨_, rfl⟩ (.nil))))
    (case e_NAMED_3 => (refine' BC.tupI_mk ?l ?v; (case l => k_is); (case v => exact .cons ⟨_, rfl⟩ (.nil))))
    (case e_NAMED_4 => (refine' BC.tupI_mk ?l ?v; (case l => k_is); (case v => exact .cons ⟨_, rfl⟩ (.cons ⟨_, rfl⟩ (.nil)))))
    (case e_NAMED_5 => (refine' BC.tupI_mk ?l ?v; (case l => k_is); (case v => exact .cons ⟨_, rfl⟩ (.cons ⟨_, rfl⟩ (.nil)))))
    (case e_NAMED_6 => (refine' BC.tupI_mk ?l ?v; (case l => k_is); (case v => exact .cons ⟨_, rfl⟩ (.nil))))
    (case e_NAMED_7 => (refine' BC.tupI_mk ?l ?v; (case l => k_is); (case v => exact .cons ⟨_, rfl⟩ (.nil))))
    (case e_NAMED_8 => (refine' BC.tupI_mk ?l ?v; (case l => k_is); (case v => exact .cons ⟨_, rfl⟩ (.nil))))
    (case e_NAMED_9 => (refine' BC.tupI_mk ?l ?v; (case l => k_is); (case v => exact .cons ⟨_, rfl⟩ (.cons ⟨_, rfl⟩ (.cons ⟨_, rfl⟩ (.nil))))))
    (case a_ROW_CALLS => k_is)
    (case e_ROW_CALLS => (refine' BC.tupI_mk ?l ?v; (case l => k_is); (case v => exact .cons ⟨_, rfl⟩ (.cons ⟨_, rfl⟩ (.nil)))))
    (case a_SHOWERS => k_is)
    (case e_SHOWERS => (refine' BC.tupAt_mk ?l; (case l => k_is)))
    (case a_SIZES => k_is)
    (case e_SIZES => (refine' BC.tupI_mk ?l ?v; (case l => k_is); (case v => exact .cons ⟨_, rfl⟩ (.cons ⟨_, rfl⟩ (.cons ⟨_, rfl⟩ (.cons ⟨_, rfl⟩ (.cons ⟨_, rfl⟩ (.cons ⟨_, rfl⟩ (.cons ⟨_, rfl⟩ (.cons ⟨_, rfl⟩ (.cons ⟨_, rfl⟩ (.cons ⟨_, rfl⟩ (.cons ⟨_, rfl⟩ (.cons ⟨_, rfl⟩ (.cons ⟨_, rfl⟩ (.cons ⟨_, rfl⟩ (.cons ⟨_, rfl⟩ (.cons ⟨_, rfl⟩ (.cons ⟨_, rfl⟩ (.cons ⟨_, rfl⟩ (.cons ⟨_, rfl⟩ (.cons ⟨_, rfl⟩ (.cons ⟨_, rfl⟩ (.cons ⟨_, rfl⟩ (.cons ⟨_, rfl⟩ (.nil))))))))))))))))))))))))))
    (case a_TWO => k_is)
    (case e_TWO => (refine' BC.tupAt_mk ?l; (case l => k_is)))
    (case a_UNFITS => k_is)
    (case e_UNFITS => (refine' BC.tupAt_mk ?l; (case l => k_is)))
  case S =>
    intro K H xs a hO hwi hask hx
    cases hx with
    | cons h1 h2 =>
      cases h2
      cases h1 with
      | lst hs ha =>
        have e := L2.ints_dw a.1 _ ha
        subst e
        have q : ((Codec.inLen 0 31000 a.1 && a.1.all (Codec.inInt 0 4294967295)) && true) = true := hwi
        rw [Bool.and_eq_true, Bool.and_eq_true] at q
        have hsm : BS.Small a.1 := fun z hz => Codec.inInt_iff.mp ((List.all_eq_true.mp q.1.2) z hz)
        exact ⟨_, a.1, rfl, hs, hO, hsm, (Codec.inNat_iff.mp q.1.1).2, hask, fun H' p hp => .lst (L2.SqL.of hp) (L2.dw_ints _)⟩

