import PyProof.Rows.All
import Wide.All
import OpenK.AllK
import Wide.FinOn
import Open.SpecLaws
import KE.OsGo
import HandS.ForSpec
import HandS.TryMany
import HandS.Comp
import HandS.Dict
import HandS.Iter
import HandS.More
import HandS.WideBits
import HandS.Codes
import HandS.Lambda
import HandS.Nested
import HandS.Small
import PyFlatLaws
import PySem.Challenge.RW_bitsways_s01_answers
import PyKrdk
set_option Elab.async false
set_option linter.all false
set_option maxRecDepth 100000
set_option maxHeartbeats 2000000
/-! bitsways answers: the program against PyKrdk.answers, by hand. Parts: the mathematics (M), each def by its promise (B), the end (E). -/
namespace Bw
open Krdk
/-! bits -/
def pop (s : Nat) : Nat := ((List.range 5).filter fun i => s.testBit i).length
theorem pop_step : ∀ s, s < 32 → pop s = s % 2 + pop (s / 2) := by decide +kernel
theorem pop_zero : pop 0 = 0 := by decide +kernel
theorem pop_range : ∀ n, n < 6 → ∀ a, a < 2 ^ n → ((List.range n).filter fun i => a.testBit i).length = pop a := by decide +kernel
theorem flip_xor : ∀ x, x < 32 → ∀ i, i < 5 → flip x i = x ^^^ (2 ^ i) := by decide +kernel
theorem or_set : ∀ x, x < 32 → ∀ i, i < 5 → x ||| (2 ^ i) = if x.testBit i then x else flip x i := by decide +kernel
theorem pop_le : ∀ n, n < 6 → ∀ a, a < 2 ^ n → pop a ≤ n := by decide +kernel
theorem bits_pop {n s : Nat} (hn : n < 6) (hs : s < 2 ^ n) : bits n s = pop s := pop_range n hn s hs
theorem pow_le32 {n : Nat} (hn : n < 6) : 2 ^ n ≤ 32 := Nat.pow_le_pow_right (n := 2) (by decide) (show n ≤ 5 by omega)
theorem meet_pop {n s x : Nat} (hn : n < 6) (_hs : s < 2 ^ n) (hx : x < 2 ^ n) : meet n s x = pop (x &&& s) := by
  have h : x &&& s < 2 ^ n := Nat.lt_of_le_of_lt Nat.and_le_left hx
  rw [← pop_range n hn _ h]
  unfold meet
  congr 2
  funext i
  rw [Nat.testBit_and, Bool.and_comm]
/-! answers -/
def bi (b : Bool) : Int := if b then 1 else 0
theorem bi_inj {a b : Bool} (h : bi a = bi b) : a = b := by cases a <;> cases b <;> first | rfl | (exact absurd h (by decide))
structure WF (f : Answer) : Prop where
  n1 : 1 ≤ f.n
  n5 : f.n ≤ 5
  len : f.t.length = 2 ^ f.n
theorem WF.lt {f : Answer} (h : WF f) : f.n < 6 := by have := h.n5; omega
theorem WF.mk_of {n : Nat} {p : Nat → Bool} (h1 : 1 ≤ n) (h5 : n ≤ 5) : WF (Krdk.of n p) := ⟨h1, h5, by simp [Krdk.of, words]⟩
theorem at_get {f : Answer} {x : Nat} (h : x < f.t.length) : f.at_ x = f.t[x] := by
  unfold Answer.at_
  rw [List.getD_eq_getElem?_getD, List.getElem?_eq_getElem h] <;> rfl
theorem t_eq {f : Answer} (h : WF f) : f.t = (words f.n).map f.at_ := by
  apply List.ext_getElem
  · simp [words, h.len]
  · intro i h1 h2
    simp [words, at_get h1]
theorem at_of {n : Nat} {p : Nat → Bool} {x : Nat} (hx : x < 2 ^ n) : (of n p).at_ x = p x := by
  have h : x < (of n p).t.length := by simp [of, words, hx]
  rw [at_get h]
  simp [of, words]
theorem of_ext {n : Nat} {p q : Nat → Bool} (h : ∀ x, x < 2 ^ n → p x = q x) : of n p = of n q := by
  unfold of
  congr 1
  apply List.map_congr_left
  intro x hx
  exact h x (by simpa [words] using hx)
theorem sum_bi : ∀ (l : List Nat) (p : Nat → Bool), (l.map fun x => bi (p x)).sum = ((l.filter p).length : Int)
  | [], _ => rfl
  | a :: l, p => by
    rw [List.map_cons, List.sum_cons, sum_bi l p, List.filter_cons]
    cases h : p a
    · simp [bi]
    · simp [bi]; omega
theorem yes_sum {f : Answer} (h : WF f) : (f.t.map bi).sum = (f.yes : Int) := by
  unfold Answer.yes
  rw [← sum_bi, t_eq h, List.map_map]
  have e : f.at_ = (Answer.at_ ⟨f.n, List.map f.at_ (words f.n)⟩) := by
    have := t_eq h
    cases f with
    | mk n t =>
      simp only at this
      rw [← this]
  congr 1
theorem yes_le (f : Answer) : f.yes ≤ 2 ^ f.n := by
  unfold Answer.yes
  exact Nat.le_trans (List.length_filter_le _ _) (by simp [words])
/-! fractions -/
theorem fr_div (u : Int) (l : Nat) (h : l ≠ 0) : fr ((u : Rat) / ((l : Nat) : Rat)) = [u / (Int.gcd u l : Nat), (l : Int) / (Int.gcd u l : Nat)] := by
  have e : ((u : Rat) / ((l : Nat) : Rat)) = mkRat u l := by rw [Rat.mkRat_eq_div] <;> rfl
  unfold fr
  rw [e, Rat.num_mkRat, Rat.den_mkRat, if_neg h, if_neg h]
  have g : Int.gcd u l = l.gcd u.natAbs := by rw [Nat.gcd_comm] <;> rfl
  rw [g]
  simp
end Bw
namespace Bw
open Krdk
def swc (f : Answer) (i : Nat) : Nat := ((words f.n).filter (f.sways i)).length
def psum (f : Answer) (s : Nat) : Int := ((words f.n).map fun x => if meet f.n s x % 2 = 0 then f.sign x else -f.sign x).foldl (· + ·) 0
def N (f : Answer) : Nat := 2 ^ f.n
theorem N_ne (f : Answer) : N f ≠ 0 := Nat.ne_of_gt (Nat.two_pow_pos _)
theorem N_rat (f : Answer) : ((N f : Nat) : Rat) ≠ 0 := by
  intro h
  exact N_ne f (by exact_mod_cast h)
theorem sway_eq (f : Answer) (i : Nat) : f.sway i = ((swc f i : Int) : Rat) / ((N f : Nat) : Rat) := rfl
theorem part_eq (f : Answer) (s : Nat) : f.part s = ((psum f s : Int) : Rat) / ((N f : Nat) : Rat) := rfl
theorem mean_eq (f : Answer) : f.mean = ((f.yes : Int) : Rat) / ((N f : Nat) : Rat) := rfl
theorem sum_acc {α : Type} (c : α → Int) (d : Rat) (g : α → Rat) (hg : ∀ x, g x = (c x : Rat) / d) : ∀ (l : List α) (a : Int),
    (l.map g).foldl (· + ·) ((a : Rat) / d) = ((a + (l.map c).sum : Int) : Rat) / d
  | [], a => by simp
  | x :: l, a => by
    rw [List.map_cons, List.foldl_cons, hg]
    have e : (a : Rat) / d + (c x : Rat) / d = ((a + c x : Int) : Rat) / d := by
      rw [Rat.intCast_add, Rat.div_def, Rat.div_def, Rat.div_def, Rat.add_mul]
    rw [e, sum_acc c d g hg l (a + c x), List.map_cons, List.sum_cons, Int.add_assoc]
theorem sum_div {α : Type} (c : α → Int) (d : Rat) (g : α → Rat) (hg : ∀ x, g x = (c x : Rat) / d) (l : List α) : Krdk.sum (l.map g) = (((l.map c).sum : Int) : Rat) / d := by
  have h := sum_acc c d g hg l 0
  unfold Krdk.sum
  have z : ((0 : Int) : Rat) / d = 0 := by
    rw [Rat.div_def]; simp
  rw [z] at h
  rw [h]; simp
theorem all_eq (f : Answer) : f.all = ((((List.range f.n).map fun i => (swc f i : Int)).sum : Int) : Rat) / ((N f : Nat) : Rat) := sum_div _ _ _ (sway_eq f) _
theorem sq_div (a : Int) (d : Rat) : (a : Rat) / d * ((a : Rat) / d) = ((a * a : Int) : Rat) / (d * d) := by
  rw [Rat.intCast_mul]
  by_cases h : d = 0
  · subst h; simp [Rat.div_def]
  · grind
theorem level_eq (f : Answer) (k : Nat) : f.level k = (((((words f.n).filter fun s => bits f.n s == k).map fun s => psum f s * psum f s).sum : Int) : Rat) / ((N f * N f : Nat) : Rat) := by
  unfold Answer.level
  rw [sum_div (fun s => psum f s * psum f s) (((N f : Nat) : Rat) * ((N f : Nat) : Rat)) _ (fun s => by rw [part_eq, sq_div])]
  rw [Rat.natCast_mul]
theorem even_eq (f : Answer) : f.even_ = ((4 * (f.yes : Int) * ((N f : Int) - (f.yes : Int)) : Int) : Rat) / ((N f * N f : Nat) : Rat) := by
  unfold Answer.even_
  rw [mean_eq, Rat.natCast_mul]
  have h := N_rat f
  generalize (N f : Nat) = m at *
  generalize f.yes = y
  have e : ((4 * (y : Int) * ((m : Int) - (y : Int)) : Int) : Rat) = 4 * (y : Rat) * ((m : Rat) - (y : Rat)) := by
    simp only [Rat.intCast_mul, Rat.intCast_sub, Rat.intCast_natCast]
    rfl
  rw [e, Rat.intCast_natCast]
  grind
theorem frac_zero (a : Int) (d : Nat) (h : d ≠ 0) : ((a : Rat) / ((d : Nat) : Rat) = 0) ↔ a = 0 := by
  have hd : ((d : Nat) : Rat) ≠ 0 := by
    intro z; exact h (by exact_mod_cast z)
  constructor
  · intro e
    have : (a : Rat) = 0 := by grind
    exact_mod_cast this
  · intro e; subst e; rw [Rat.div_def]; simp
theorem frac_lt (a b : Int) (d : Nat) (h : d ≠ 0) : ((a : Rat) / ((d : Nat) : Rat) < (b : Rat) / ((d : Nat) : Rat)) ↔ a < b := by
  have hd : (0 : Rat) < ((d : Nat) : Rat) := by
    have : 0 < d := Nat.pos_of_ne_zero h
    exact_mod_cast this
  rw [Rat.div_lt_iff hd]
  have e : (b : Rat) / ((d : Nat) : Rat) * ((d : Nat) : Rat) = b := by grind
  rw [e]
  exact Rat.intCast_lt_intCast
end Bw
namespace Bw
open Krdk
def hd (g : List Int) : Nat := (g.headD 0).toNat
def callOf (c : Nat) (g : List Int) : Krdk.Call := match c with
  | 0 => .begin_ (hd g)
  | 1 => .told (g.map Int.toNat)
  | 2 => .least (hd g) (g.tail.map Int.toNat)
  | 3 => .odd (hd g)
  | 4 => .bit (hd g)
  | 5 => .not_
  | 6 => .turn (hd g)
  | 7 => .set (hd g) (hd g.tail)
  | 8 => .ask (hd g)
  | 9 => .mean
  | 10 => .sway (hd g)
  | 11 => .all
  | 12 => .even
  | 13 => .part (hd g)
  | 14 => .parts
  | 15 => .levels
  | 16 => .sides
  | 17 => .fewest
  | 18 => .rising
  | 19 => .idle
  | 20 => .most
  | _ => .state
def frI (u : Int) (l : Nat) : List Int := [u / (Int.gcd u l : Nat), (l : Int) / (Int.gcd u l : Nat)]
def lev (f : Answer) (k : Nat) : Int := (((words f.n).filter fun s => bits f.n s == k).map fun s => psum f s * psum f s).sum
def bst (f : Answer) : Nat := (List.range f.n).foldl (fun (b : Nat) i => if swc f b < swc f i then i else b) 0
/-- what a call that makes an answer makes -/
def mk (f : Answer) (c : Nat) (g : List Int) : Except Int Answer := match c with
  | 1 => if 32 < g.length ∨ ¬ (∀ z ∈ g, z.toNat < 2 ^ f.n) then .error (-22) else .ok (Krdk.of f.n fun w => (g.map Int.toNat).contains w)
  | 2 => if g.tail.length ≠ f.n ∨ ¬ (∀ z ∈ g.tail, z.toNat ≤ 9) then .error (-22) else .ok (Krdk.of f.n fun w => decide (hd g ≤ weigh f.n (g.tail.map Int.toNat) w))
  | 3 => if 2 ^ f.n ≤ hd g then .error (-22) else .ok (Krdk.of f.n fun w => pop (w &&& hd g) % 2 == 1)
  | 4 => if f.n ≤ hd g then .error (-2) else .ok (Krdk.of f.n fun w => w.testBit (hd g))
  | 5 => .ok (Krdk.of f.n fun w => !f.at_ w)
  | 6 => if f.n ≤ hd g then .error (-2) else .ok (Krdk.of f.n fun w => f.at_ (w ^^^ (2 ^ hd g)))
  | _ => if 2 ^ f.n ≤ hd g ∨ 1 < hd g.tail then .error (-22) else .ok ⟨f.n, f.t.set (hd g) (hd g.tail == 1)⟩
/-- what a call that asks is answered -/
def ak (f : Answer) (c : Nat) (g : List Int) : Except Int (List Int) := match c with
  | 8 => if 2 ^ f.n ≤ hd g then .error (-22) else .ok [bi (f.at_ (hd g))]
  | 9 => .ok (0 :: frI f.yes (N f))
  | 10 => if f.n ≤ hd g then .error (-2) else .ok (0 :: frI (swc f (hd g)) (N f))
  | 11 => .ok (0 :: frI ((List.range f.n).map fun i => (swc f i : Int)).sum (N f))
  | 12 => .ok (0 :: frI (4 * (f.yes : Int) * ((N f : Int) - (f.yes : Int))) (N f * N f))
  | 13 => if 2 ^ f.n ≤ hd g then .error (-22) else .ok (0 :: frI (psum f (hd g)) (N f))
  | 14 => let l := (words f.n).filter fun s => psum f s != 0
    .ok ((l.length : Int) :: l.flatMap fun (s : Nat) => (s : Int) :: frI (psum f s) (N f))
  | 15 => .ok (((f.n : Int) + 1) :: (List.range (f.n + 1)).flatMap fun k => frI (lev f k) (N f * N f))
  | 16 => .ok [(f.sides : Int)]
  | 17 => .ok [((first f.n f.yes).sides : Int)]
  | 18 => .ok [bi f.rising]
  | 19 => let l := (List.range f.n).filter fun i => swc f i == 0
    .ok ((l.length : Int) :: l.map fun (x : Nat) => (x : Int))
  | 20 => .ok ((bst f : Int) :: frI (swc f (bst f)) (N f))
  | _ => .ok ((f.n : Int) :: ((words f.n).filter f.at_).map fun (x : Nat) => (x : Int))
theorem fr_frI (u : Int) (f : Answer) : fr ((u : Rat) / ((N f : Nat) : Rat)) = frI u (N f) := fr_div u _ (N_ne f)
theorem NN_ne (f : Answer) : N f * N f ≠ 0 := Nat.mul_ne_zero (N_ne f) (N_ne f)
theorem fr_frI2 (u : Int) (f : Answer) : fr ((u : Rat) / ((N f * N f : Nat) : Rat)) = frI u (N f * N f) := fr_div u _ (NN_ne f)
theorem part_ne (f : Answer) : (fun s => f.part s != 0) = fun s => psum f s != 0 := by
  funext s
  rw [part_eq]
  have h := frac_zero (psum f s) (N f) (N_ne f)
  by_cases e : psum f s = 0
  · rw [h.mpr e, e] <;> rfl
  · have e2 : ¬ ((psum f s : Rat) / ((N f : Nat) : Rat) = 0) := fun q => e (h.mp q)
    rw [bne_iff_ne.mpr e2, bne_iff_ne.mpr e]
theorem sway_z (f : Answer) : (fun i => f.sway i == 0) = fun i => swc f i == 0 := by
  funext s
  rw [sway_eq]
  have h := frac_zero (swc f s) (N f) (N_ne f)
  by_cases e : swc f s = 0
  · rw [h.mpr (by omega), e] <;> rfl
  · have e2 : ¬ (((swc f s : Int) : Rat) / ((N f : Nat) : Rat) = 0) := fun q => e (by have := h.mp q; omega)
    simp only [beq_eq_false_iff_ne.mpr e2, beq_eq_false_iff_ne.mpr e]
theorem bst_eq (f : Answer) : (List.range f.n).foldl (fun (b : Nat) i => if f.sway b < f.sway i then i else b) 0 = bst f := by
  unfold bst
  congr 1
  funext b i
  have h := frac_lt (swc f b) (swc f i) (N f) (N_ne f)
  rw [sway_eq, sway_eq]
  by_cases e : swc f b < swc f i
  · rw [if_pos e, if_pos (h.mpr (by omega))]
  · rw [if_neg e, if_neg (fun q => e (by have := h.mp q; omega))]
theorem not_all (l : List Nat) (p : Nat → Bool) : (!(l.all p)) = decide (¬ ∀ z ∈ l, p z = true) := by
  by_cases h : ∀ z ∈ l, p z = true
  · rw [List.all_eq_true.mpr h]; simp; simpa using h
  · have : l.all p = false := by
      cases e : l.all p with
      | false => rfl
      | true => exact absurd (List.all_eq_true.mp e) h
    rw [this, decide_eq_true h] <;> rfl
theorem act_mk {f : Answer} (hf : WF f) {c : Nat} (h1 : 1 ≤ c) (h7 : c ≤ 7) (g : List Int) :
    act (some f) (callOf c g) = match mk f c g with
      | .ok h => (some h, nat h.yes)
      | .error e => (some f, say e) := by
  have : c = 1 ∨ c = 2 ∨ c = 3 ∨ c = 4 ∨ c = 5 ∨ c = 6 ∨ c = 7 := by omega
  rcases this with e | e | e | e | e | e | e <;> subst e
  · have hb : (decide (32 < (g.map Int.toNat).length) || !((g.map Int.toNat).all fun w => !decide (2 ^ f.n ≤ w))) = decide (32 < g.length ∨ ¬ (∀ z ∈ g, z.toNat < 2 ^ f.n)) := by
      rw [not_all, List.length_map, Bool.decide_or]
      simp
    by_cases h : 32 < g.length ∨ ¬ (∀ z ∈ g, z.toNat < 2 ^ f.n)
    · have e1 : mk f 1 g = .error (-22) := if_pos h
      rw [e1]
      exact if_pos (hb.trans (decide_eq_true h))
    · have e1 : mk f 1 g = .ok _ := if_neg h
      rw [e1]
      exact if_neg (by rw [hb, decide_eq_false h]; decide)
  · have hb : (decide ((g.tail.map Int.toNat).length ≠ f.n) || !((g.tail.map Int.toNat).all fun v => decide (v ≤ 9))) = decide (g.tail.length ≠ f.n ∨ ¬ (∀ z ∈ g.tail, z.toNat ≤ 9)) := by
      rw [not_all, List.length_map, Bool.decide_or]
      congr 2
      simp only [List.mem_map, decide_eq_true_eq, forall_exists_index, and_imp, forall_apply_eq_imp_iff₂]
    by_cases h : g.tail.length ≠ f.n ∨ ¬ (∀ z ∈ g.tail, z.toNat ≤ 9)
    · have e1 : mk f 2 g = .error (-22) := if_pos h
      rw [e1]
      exact if_pos (hb.trans (decide_eq_true h))
    · have e1 : mk f 2 g = .ok _ := if_neg h
      rw [e1]
      exact if_neg (by rw [hb, decide_eq_false h]; decide)
  · by_cases h : 2 ^ f.n ≤ hd g
    · have e1 : mk f 3 g = .error (-22) := if_pos h
      rw [e1]
      exact if_pos (decide_eq_true h)
    · have e1 : mk f 3 g = .ok _ := if_neg h
      rw [e1]
      refine (if_neg (by simpa using h)).trans ?_
      have e : (Krdk.of f.n fun w => meet f.n (hd g) w % 2 == 1) = Krdk.of f.n fun w => pop (w &&& hd g) % 2 == 1 := of_ext fun x hx => by rw [meet_pop hf.lt (by omega) hx]
      rw [e]
  · by_cases h : f.n ≤ hd g
    · have e1 : mk f 4 g = .error (-2) := if_pos h
      rw [e1]
      exact if_pos (decide_eq_true h)
    · have e1 : mk f 4 g = .ok _ := if_neg h
      rw [e1]
      exact if_neg (by simpa using h)
  · rfl
  · by_cases h : f.n ≤ hd g
    · have e1 : mk f 6 g = .error (-2) := if_pos h
      rw [e1]
      exact if_pos (decide_eq_true h)
    · have e1 : mk f 6 g = .ok _ := if_neg h
      rw [e1]
      refine (if_neg (by simpa using h)).trans ?_
      have e : (Krdk.of f.n fun w => f.at_ (flip w (hd g))) = Krdk.of f.n fun w => f.at_ (w ^^^ (2 ^ hd g)) := of_ext fun x hx => by
        rw [flip_xor x (Nat.lt_of_lt_of_le hx (pow_le32 hf.lt)) _ (by have := hf.n5; omega)]
      rw [e]
  · by_cases h : 2 ^ f.n ≤ hd g ∨ 1 < hd g.tail
    · have e1 : mk f 7 g = .error (-22) := if_pos h
      rw [e1]
      exact if_pos (by simpa using h)
    · have e1 : mk f 7 g = .ok _ := if_neg h
      rw [e1]
      exact if_neg (by simpa using h)
theorem act_ak {f : Answer} {c : Nat} (h8 : 8 ≤ c) (h21 : c ≤ 21) (g : List Int) :
    (act (some f) (callOf c g)).1 = some f ∧ KrdkNeutral.told (act (some f) (callOf c g)).2 = match ak f c g with
      | .ok l => l
      | .error e => [e] := by
  have : c = 8 ∨ c = 9 ∨ c = 10 ∨ c = 11 ∨ c = 12 ∨ c = 13 ∨ c = 14 ∨ c = 15 ∨ c = 16 ∨ c = 17 ∨ c = 18 ∨ c = 19 ∨ c = 20 ∨ c = 21 := by omega
  rcases this with e | e | e | e | e | e | e | e | e | e | e | e | e | e <;> subst e
  · refine ⟨rfl, ?_⟩
    show KrdkNeutral.told (if decide (2 ^ f.n ≤ hd g) then say (-22) else Krdk.ask (f.at_ (hd g))) = _
    by_cases h : 2 ^ f.n ≤ hd g
    · have e1 : ak f 8 g = .error (-22) := if_pos h
      rw [e1, if_pos (decide_eq_true h)] <;> rfl
    · have e1 : ak f 8 g = .ok _ := if_neg h
      rw [e1, if_neg (by simpa using h)]
      cases f.at_ (hd g) <;> rfl
  · refine ⟨rfl, ?_⟩
    show 0 :: fr f.mean = _
    rw [mean_eq, fr_frI] <;> rfl
  · refine ⟨rfl, ?_⟩
    show KrdkNeutral.told (if decide (f.n ≤ hd g) then say (-2) else frac (f.sway (hd g))) = _
    by_cases h : f.n ≤ hd g
    · have e1 : ak f 10 g = .error (-2) := if_pos h
      rw [e1, if_pos (decide_eq_true h)] <;> rfl
    · have e1 : ak f 10 g = .ok _ := if_neg h
      rw [e1, if_neg (by simpa using h)]
      show 0 :: fr (f.sway (hd g)) = _
      rw [sway_eq, fr_frI] <;> rfl
  · refine ⟨rfl, ?_⟩
    show 0 :: fr f.all = _
    rw [all_eq, fr_frI] <;> rfl
  · refine ⟨rfl, ?_⟩
    show 0 :: fr f.even_ = _
    rw [even_eq, fr_frI2] <;> rfl
  · refine ⟨rfl, ?_⟩
    show KrdkNeutral.told (if decide (2 ^ f.n ≤ hd g) then say (-22) else frac (f.part (hd g))) = _
    by_cases h : 2 ^ f.n ≤ hd g
    · have e1 : ak f 13 g = .error (-22) := if_pos h
      rw [e1, if_pos (decide_eq_true h)] <;> rfl
    · have e1 : ak f 13 g = .ok _ := if_neg h
      rw [e1, if_neg (by simpa using h)]
      show 0 :: fr (f.part (hd g)) = _
      rw [part_eq, fr_frI] <;> rfl
  · refine ⟨rfl, ?_⟩
    show ((((words f.n).filter fun s => f.part s != 0).length : Int) :: ((words f.n).filter fun s => f.part s != 0).flatMap fun (s : Nat) => (s : Int) :: fr (f.part s)) = _
    rw [part_ne]
    have e : (fun (s : Nat) => (s : Int) :: fr (f.part s)) = fun (s : Nat) => (s : Int) :: frI (psum f s) (N f) := by
      funext s; rw [part_eq, fr_frI]
    rw [e] <;> rfl
  · refine ⟨rfl, ?_⟩
    show (((f.n : Int) + 1) :: (List.range (f.n + 1)).flatMap fun k => fr (f.level k)) = _
    have e : (fun k => fr (f.level k)) = fun k => frI (lev f k) (N f * N f) := by
      funext k; rw [level_eq, fr_frI2] <;> rfl
    rw [e] <;> rfl
  · exact ⟨rfl, rfl⟩
  · exact ⟨rfl, rfl⟩
  · exact ⟨rfl, rfl⟩
  · refine ⟨rfl, ?_⟩
    show ((((List.range f.n).filter fun i => f.sway i == 0).length : Int) :: ((List.range f.n).filter fun i => f.sway i == 0).map fun (x : Nat) => (x : Int)) = _
    rw [sway_z] <;> rfl
  · refine ⟨rfl, ?_⟩
    show ((((List.range f.n).foldl (fun (b : Nat) i => if f.sway b < f.sway i then i else b) 0 : Nat) : Int) :: fr (f.sway ((List.range f.n).foldl (fun (b : Nat) i => if f.sway b < f.sway i then i else b) 0))) = _
    rw [bst_eq, sway_eq, fr_frI] <;> rfl
  · exact ⟨rfl, rfl⟩
theorem act_none {c : Nat} (h1 : 1 ≤ c) (h21 : c ≤ 21) (g : List Int) : act none (callOf c g) = (none, say (-11)) := by
  have : c = 1 ∨ c = 2 ∨ c = 3 ∨ c = 4 ∨ c = 5 ∨ c = 6 ∨ c = 7 ∨ c = 8 ∨ c = 9 ∨ c = 10 ∨ c = 11 ∨ c = 12 ∨ c = 13 ∨ c = 14 ∨ c = 15 ∨ c = 16 ∨ c = 17 ∨ c = 18 ∨ c = 19 ∨ c = 20 ∨ c = 21 := by omega
  rcases this with e | e | e | e | e | e | e | e | e | e | e | e | e | e | e | e | e | e | e | e | e <;> subst e <;> rfl
theorem act_begin (x : Abs) (g : List Int) : act x (callOf 0 g) = if hd g < 1 ∨ 5 < hd g then (x, say (-22)) else (some (Krdk.of (hd g) fun _ => false), say 0) := by
  have hb : ((decide (hd g = 0)) || decide (mostBits < hd g)) = decide (hd g < 1 ∨ 5 < hd g) := by
    rw [Bool.decide_or]
    congr 1
    by_cases z : hd g = 0 <;> simp [z]
  by_cases h : hd g < 1 ∨ 5 < hd g
  · rw [if_pos h]
    exact if_pos (hb.trans (decide_eq_true h))
  · rw [if_neg h]
    exact if_neg (by rw [hb, decide_eq_false h]; decide)
/-- a made answer is one -/
theorem mk_wf {f h : Answer} (hf : WF f) {c : Nat} {g : List Int} (e : mk f c g = .ok h) : WF h := by
  unfold mk at e
  split at e <;> (try split at e) <;> first | (cases e; done) | (cases e; exact WF.mk_of hf.n1 hf.n5) | (cases e; exact ⟨hf.n1, hf.n5, by rw [List.length_set]; exact hf.len⟩)
end Bw
namespace Bw
open PySem PySem.Spec PyProof.Rows L2
theorem cond_t {c : Bool} {A B : Prop} (hc : c = true) (h : A) : if c = true then A else B := by
  subst hc
  exact iteT h
theorem cond_f {c : Bool} {A B : Prop} (hc : c = false) (h : B) : if c = true then A else B := by
  subst hc
  exact iteF h
/-- the i-th statement of the program -/
def top (i : Nat) : Stmt := PySem.Challenge.pw_bitsways_s01_answers.main.body.getD i (.Pass ⟨0, 0, 0, 0⟩)
/-- the def that the name x of the module stands for, with its promise -/
structure Hs (P : Program) (w : World) (K : PySem.W.Frag) (mg : Str → Option Value) (base : Heap) (CX : CXT) (k : Nat) (x : Str) (sp : Sp) : Prop where
  ex : ∃ (f : Addr) (fd : FuncData) (ps : List Str), mg x = some (.ref f) ∧ PySem.W.keepIn K (.ref f) = true ∧ Binds K fd ps [] ∧ FnOk P w K mg base CX k f fd ps sp
section
variable {X : Cx} {k j : Nat} {x : Str} {sp : Sp} {E : XK} {CX : CXT} {p pos : Pos} {e : Expr} {es : List Expr} {t : TA}
theorem pe_hx (h : Hs X.prog X.w X.K X.mg X.base CX k x sp) (hr : Room j X.A) (hk : k ≤ j) (hx : Passes CX X E) (ha : PA X (e :: es) t) (hg : Gl X x := by rfl)
    (hdb : (x == ("__debug__" : Str)) = false := by decide) (he : starEach (e :: es) X.env = (false, eval e X.env) :: starEach es X.env := by rfl) (hpl : (backTo pos (starEach es X.env)).any (·.1) = false := by rfl) :
    PE X (.Call (.Name x p) (e :: es) [] pos) (tCall sp [] E t) := by
  obtain ⟨f, fd, ps, hm, hkp, hb, F⟩ := h.ex
  exact pe_call F (hr.mono hk) hg hm hkp hb .nil hx ha hdb he hpl
theorem pe_h (h : Hs X.prog X.w X.K X.mg X.base CX0 k x sp) (hr : Room j X.A) (hk : k ≤ j) (ha : PA X (e :: es) t) (hg : Gl X x := by rfl)
    (hdb : (x == ("__debug__" : Str)) = false := by decide) (he : starEach (e :: es) X.env = (false, eval e X.env) :: starEach es X.env := by rfl) (hpl : (backTo pos (starEach es X.env)).any (·.1) = false := by rfl) :
    PE X (.Call (.Name x p) (e :: es) [] pos) (tCall sp [] E0 t) := pe_hx h hr hk pass0 ha hg hdb he hpl
end
theorem Hs.mk' {P : Program} {w : World} {K : PySem.W.Frag} {mg : Str → Option Value} {base : Heap} {CX : CXT} {k : Nat} {x : Str} {sp : Sp} {f : Addr} {fd : FuncData} {ps : List Str} {st : Stmt}
    (hm : mg x = some (.ref f)) (F : Fun K x x st f fd) (b : Binds K fd ps []) (o : FnOk P w K mg base CX k f fd ps sp) : Hs P w K mg base CX k x sp := ⟨f, fd, ps, hm, F.kp, b, o⟩
/-- a new list comes out -/
def NL (H : Hp) (l : List V) (Q : VK) : Prop := ∀ (H' : Hp) (p : Addr), Same H H' → H p = none → H' p = some (.lst l) → Q (.ref p) H'
/-- a value comes out; what was tracked stands -/
def SV (H : Hp) (v : V) (Q : VK) : Prop := ∀ H' : Hp, Same H H' → Q v H'
theorem Same.upd {H : Hp} {p : Addr} {o : HO} (h : H p = none) : Same H (upd H p o) := fun b u e => by
  rw [upd_ne (ne_of_none e h)]
  exact e
theorem NL.to {H : Hp} {l : List V} {Q : VK} (h : NL H l Q) {H1 : Hp} (s : Same H H1) {p : Addr} (hp : H1 p = none) : Q (.ref p) (upd H1 p (.lst l)) :=
  h _ p (s.trans (Same.upd hp)) (s.free hp) upd_same
/-! fraction -/
abbrev sGcd : Stmt := top 1
abbrev sLow : Stmt := top 2
theorem scGcd : FnScope ["upper", "lower", "rest"] ["upper", "lower"] (defScope sGcd) := ⟨rfl, rfl, rfl, by decide +kernel, rfl, by decide +kernel, by decide +kernel⟩
theorem scLow : FnScope ["upper", "lower", "shared"] ["upper", "lower"] (defScope sLow) := ⟨rfl, rfl, rfl, by decide +kernel, rfl, by decide +kernel, by decide +kernel⟩
def spGcd : Sp := fun vs H Q _ => ∃ u l : Int, vs = [.int u, .int l] ∧ 0 < l ∧ Q (.int (Int.gcd u l : Nat)) H
def frV (u l : Int) : List V := [.int (u / (Int.gcd u l : Nat)), .int (l / (Int.gcd u l : Nat))]
def spLow : Sp := fun vs H Q _ => ∃ u l : Int, vs = [.int u, .int l] ∧ 0 < l ∧ l < 1000000 ∧ ∀ p, H p = none → Q (.ref p) (upd H p (.lst (frV u l)))
theorem gcd_turn {a b : Int} (_h : 0 < b) : Int.gcd b (a % b) = Int.gcd a b := by
  rw [Int.emod_def, Int.gcd_comm a b]
  simp
section
variable {P : Program} {w : World} {K : PySem.W.Frag} {mg : Str → Option Value} {base : Heap}
theorem ok_gcd {f : Addr} {fd : FuncData} (F : Fun K "most_in_common" "most_in_common" sGcd f fd) : FnOk P w K mg base CX0 1 f fd ["upper", "lower"] spGcd := by
  refine F.ok scGcd (fun vs H Q E h => ?_) (fun cdv A outer s H vs Q E hr h => ⟨_, pss_cons (ps_while PassesOwn.never (pt_cmpR op_ne (pv 1) pe_int (nomark _))
      (pss_cons (ps_set (i := 2) scGcd.nd rfl (.inl rfl) (pe_op op_mod (pv 0) (pv 1))) (pss_cons (ps_set (i := 0) scGcd.nd rfl (.inl rfl) (pv 1)) (pss_one (ps_set (i := 1) scGcd.nd rfl (.inl rfl) (pv 2))))))
    (pss_one (ps_ret (pv 0))), ?_⟩)
  · obtain ⟨u, l, rfl, _⟩ := h
    rfl
  · obtain ⟨u, l, rfl, hl, k⟩ := h
    refine while_by (fun σ H' => ∃ (a b : Int) (r : Option V), σ = [some (.int a), some (.int b), r] ∧ H' = H ∧ 0 ≤ b ∧ (0 < a ∨ 0 < b) ∧ Int.gcd a b = Int.gcd u l)
      (fun σ _ => match σ with | [_, some (.int b), _] => b.toNat | _ => 0) ⟨u, l, none, rfl, rfl, by omega, .inr hl, rfl⟩ ?_ (fun σ H Q Q' hq ⟨v, e, hs, k, ek, h⟩ => ⟨v, e, hs, k, ek, hq _ _ h⟩)
    rintro σ H' ⟨a, b, r, rfl, rfl, hb, hab, hg⟩
    refine ⟨_, rfl, rfl, _, rfl, ?_⟩
    by_cases e : b = 0
    · subst e
      refine cond_f (by simp) ?_
      refine ⟨_, rfl, ?_⟩
      have e2 : ((Int.gcd u l : Nat) : Int) = a := by
        rw [← hg, Int.gcd_zero_right]
        omega
      rw [e2] at k
      exact k
    · refine cond_t (by simp [e]) ?_
      refine ⟨_, rfl, _, rfl, a, b, rfl, rfl, by omega, _, rfl, _, rfl, ⟨b, a % b, some (.int (a % b)), rfl, rfl, Int.emod_nonneg _ e, .inl (by omega), ?_⟩, ?_⟩
      · rw [gcd_turn (by omega)]
        exact hg
      · show (a % b).toNat < b.toNat
        have h1 := Int.emod_lt_of_pos a (show 0 < b by omega)
        have h2 := Int.emod_nonneg a e
        omega
theorem ok_low {f : Addr} {fd : FuncData} (F : Fun K "lowest_terms" "lowest_terms" sLow f fd) (G : Hs P w K mg base CX0 1 "most_in_common" spGcd) : FnOk P w K mg base CX0 2 f fd ["upper", "lower"] spLow := by
  refine F.ok scLow (fun vs H Q E h => ?_) (fun cdv A outer s H vs Q E hr h => ⟨_, pss_cons (ps_set (i := 2) scLow.nd rfl (.inl rfl) (pe_h G hr (by decide) (pa_cons (pv 0) (pa_cons (pv 1) pa_nil))))
    (pss_one (ps_ret (pe_lst (pa_cons (pe_op op_fdivN (pv 0) (pv 2)) (pa_cons (pe_op op_fdivN (pv 1) (pv 2)) pa_nil))))), ?_⟩)
  · obtain ⟨u, l, rfl, _⟩ := h
    rfl
  · obtain ⟨u, l, rfl, hl, hl2, k⟩ := h
    have g0 : 0 < ((Int.gcd u l : Nat) : Int) := by
      have : Int.gcd u l ≠ 0 := fun z => by have := (Int.gcd_eq_zero_iff.mp z).2; omega
      omega
    have g1 : ((Int.gcd u l : Nat) : Int) ≤ l := Int.le_of_dvd hl (Int.gcd_dvd_right ..)
    refine ⟨_, rfl, _, rfl, u, l, rfl, hl, ?_⟩
    refine ⟨_, rfl, _, rfl, _, _, rfl, rfl, ⟨by omega, by omega⟩, _, rfl, _, rfl, _, _, rfl, rfl, ⟨by omega, by omega⟩, by show 2 ≤ sizeLine; decide, fun p hp => ?_⟩
    have h1 : Int.fdiv u (Int.gcd u l : Nat) = u / (Int.gcd u l : Nat) := Int.fdiv_eq_ediv_of_nonneg _ (by omega)
    have h2 : Int.fdiv l (Int.gcd u l : Nat) = l / (Int.gcd u l : Nat) := Int.fdiv_eq_ediv_of_nonneg _ (by omega)
    show Q (.ref p) (upd H p (.lst [.int (Int.fdiv u (Int.gcd u l : Nat)), .int (Int.fdiv l (Int.gcd u l : Nat))]))
    rw [h1, h2]
    exact k p hp
end
end Bw
namespace Bw
open PySem PySem.Spec PyProof.Rows L2
/-- the built-in names that the program calls stand for the built-ins -/
structure Bn (mg : Str → Option Value) : Prop where
  len : mg "len" = none
  range : mg "range" = none
  sum : mg "sum" = none
  max : mg "max" = none
  enumerate : mg "enumerate" = none
  list : mg "list" = none
abbrev sNta : Stmt := top 4
abbrev sBc : Stmt := top 5
abbrev sHb : Stmt := top 6
abbrev sTu : Stmt := top 7
abbrev sWb : Stmt := top 8
abbrev sSz : Stmt := top 9
abbrev sMo : Stmt := top 10
abbrev sWy : Stmt := top 11
theorem scNta : FnScope ["bits"] ["bits"] (defScope sNta) := ⟨rfl, rfl, rfl, by decide +kernel, rfl, by decide +kernel, by decide +kernel⟩
theorem scBc : FnScope ["says"] ["says"] (defScope sBc) := ⟨rfl, rfl, rfl, by decide +kernel, rfl, by decide +kernel, by decide +kernel⟩
theorem scHb : FnScope ["x", "i"] ["x", "i"] (defScope sHb) := ⟨rfl, rfl, rfl, by decide +kernel, rfl, by decide +kernel, by decide +kernel⟩
theorem scTu : FnScope ["x", "i"] ["x", "i"] (defScope sTu) := ⟨rfl, rfl, rfl, by decide +kernel, rfl, by decide +kernel, by decide +kernel⟩
theorem scWb : FnScope ["x", "i"] ["x", "i"] (defScope sWb) := ⟨rfl, rfl, rfl, by decide +kernel, rfl, by decide +kernel, by decide +kernel⟩
theorem scSz : FnScope ["s", "size"] ["s"] (defScope sSz) := ⟨rfl, rfl, rfl, by decide +kernel, rfl, by decide +kernel, by decide +kernel⟩
theorem scMo : FnScope ["x", "s"] ["x", "s"] (defScope sMo) := ⟨rfl, rfl, rfl, by decide +kernel, rfl, by decide +kernel, by decide +kernel⟩
theorem scWy : FnScope ["says", "x"] ["says"] (defScope sWy) := ⟨rfl, rfl, rfl, by decide +kernel, rfl, by decide +kernel, by decide +kernel⟩
/-- an answer as the list of its words -/
def sv (f : Krdk.Answer) : List V := f.t.map fun b => V.int (bi b)
theorem sv_len {f : Krdk.Answer} (h : WF f) : (sv f).length = 2 ^ f.n := by rw [sv, List.length_map, h.len]
theorem sv_at {f : Krdk.Answer} (h : WF f) {x : Nat} (hx : x < 2 ^ f.n) : (sv f)[x]? = some (.int (bi (f.at_ x))) := by
  have hl : x < f.t.length := by rw [h.len]; exact hx
  rw [sv, List.getElem?_map, List.getElem?_eq_getElem hl, at_get hl] <;> rfl
def spNta : Sp := fun vs H Q _ => ∃ n : Nat, vs = [.int n] ∧ n ≤ 5 ∧ NL H (List.replicate (2 ^ n) (.int 0)) Q
def spBc (K : PySem.W.Frag) : Sp := fun vs H Q _ => ∃ (a : Addr) (xs : List V) (n : Nat), vs = [.ref a] ∧ SqL K H a xs ∧ n ≤ 5 ∧ xs.length = 2 ^ n ∧ Q (.int n) H
def spHb : Sp := fun vs H Q _ => ∃ x i : Nat, vs = [.int x, .int i] ∧ Q (.bl (x.testBit i)) H
def spTu : Sp := fun vs H Q _ => ∃ x i : Nat, vs = [.int x, .int i] ∧ i ≤ 5 ∧ Q (.int (x ^^^ (2 ^ i) : Nat)) H
def spWb : Sp := fun vs H Q _ => ∃ x i : Nat, vs = [.int x, .int i] ∧ i ≤ 5 ∧ Q (.int (x ||| (2 ^ i) : Nat)) H
def spSz : Sp := fun vs H Q _ => ∃ s : Nat, vs = [.int s] ∧ s < 32 ∧ Q (.int (pop s)) H
def spMo : Sp := fun vs H Q _ => ∃ x s : Nat, vs = [.int x, .int s] ∧ x < 32 ∧ Q (.bl (pop (x &&& s) % 2 == 1)) H
def spWy (K : PySem.W.Frag) : Sp := fun vs H Q _ => ∃ (a : Addr) (f : Krdk.Answer), vs = [.ref a] ∧ WF f ∧ SqL K H a (sv f) ∧ NL H (((Krdk.words f.n).filter f.at_).map fun (x : Nat) => V.int x) Q
theorem and_nat (x y : Nat) : Builtin.bitAnd (x : Int) (y : Int) = ((x &&& y : Nat) : Int) := by
  rw [bitAnd_pp (by omega) (by omega), Int.toNat_natCast, Int.toNat_natCast]
theorem xor_nat (x y : Nat) : Builtin.bitXor (x : Int) (y : Int) = ((x ^^^ y : Nat) : Int) := by
  rw [Bits.bitXor_pp (by omega) (by omega), Int.toNat_natCast, Int.toNat_natCast]
theorem or_nat (x y : Nat) : Builtin.bitOr (x : Int) (y : Int) = ((x ||| y : Nat) : Int) := by
  rw [Bits.bitOr_pp (by omega) (by omega), Int.toNat_natCast, Int.toNat_natCast]
theorem shl_nat (i : Nat) : (1 : Int) * 2 ^ ((i : Int)).toNat = ((2 ^ i : Nat) : Int) := by
  rw [Int.toNat_natCast, Int.one_mul]
  exact (Int.natCast_pow 2 i).symm
theorem shr_nat (x i : Nat) : (x : Int) / 2 ^ ((i : Int)).toNat = ((x / 2 ^ i : Nat) : Int) := by
  rw [Int.toNat_natCast]
  have e : ((2 : Int) ^ i) = ((2 ^ i : Nat) : Int) := (Int.natCast_pow 2 i).symm
  rw [e] <;> rfl
theorem hb_is (x i : Nat) : decide (V.int (Builtin.bitAnd ((x : Int) / 2 ^ ((i : Int)).toNat) 1) = V.int 1) = x.testBit i := by
  rw [shr_nat]
  have e : Builtin.bitAnd ((x / 2 ^ i : Nat) : Int) 1 = ((x / 2 ^ i &&& 1 : Nat) : Int) := and_nat _ 1
  rw [e, Nat.and_one_is_mod, Nat.testBit_eq_decide_div_mod_eq]
  by_cases h : x / 2 ^ i % 2 = 1
  · rw [h, decide_eq_true (by rfl), decide_eq_true rfl]
  · rw [decide_eq_false h]
    exact decide_eq_false fun q => h (by have := V.int.inj q; omega)
theorem cpow {j : Nat} (h : j ≤ 5) : CPow 1 (j : Int) := ⟨by omega, by omega, by decide⟩
theorem bits_len : ∀ n, n ≤ 5 → Builtin.Int.intBits ((2 ^ n : Nat) : Int) = n + 1 := by
  intro n h
  have : n = 0 ∨ n = 1 ∨ n = 2 ∨ n = 3 ∨ n = 4 ∨ n = 5 := by omega
  rcases this with e | e | e | e | e | e <;> subst e <;> decide +kernel
theorem size_small {n : Nat} (h : n ≤ 1000000) : n ≤ sizeLine := Nat.le_trans h (by decide)
section
variable {P : Program} {w : World} {K : PySem.W.Frag} {mg : Str → Option Value} {base : Heap}
theorem ok_nta {f : Addr} {fd : FuncData} (F : Fun K "no_to_all" "no_to_all" sNta f fd) : FnOk P w K mg base CX0 1 f fd ["bits"] spNta := by
  refine F.ok scNta (fun vs H Q E h => ?_) (fun cdv A outer s H vs Q E hr h => ⟨_, pss_one (ps_ret (pe_op op_rep (pe_lst (pa_cons pe_int pa_nil)) (pe_op op_shl pe_int (pv 0)))), ?_⟩)
  · obtain ⟨n, rfl, _⟩ := h
    rfl
  · obtain ⟨n, rfl, hn, k⟩ := h
    refine ⟨by show 1 ≤ sizeLine; decide, fun l hl => ⟨_, rfl, 1, (n : Int), rfl, rfl, cpow hn, l, _, _, rfl, rfl, upd_same, ?_⟩⟩
    have hp : 2 ^ n ≤ 32 := pow_le32 (show n < 6 by omega)
    have ht : ((1 : Int) * 2 ^ ((n : Int)).toNat).toNat = 2 ^ n := by
      rw [shl_nat, Int.toNat_natCast]
    rw [shl_nat]
    rw [shl_nat] at ht
    refine ⟨by omega, by omega, ?_, fun p hp => ?_⟩
    · rw [ht]
      exact size_small (by simp; omega)
    · rw [ht, List.flatten_replicate_singleton]
      exact k.to (Same.upd hl) hp
theorem ok_bc (B : Bn mg) {f : Addr} {fd : FuncData} (F : Fun K "bit_count" "bit_count" sBc f fd) : FnOk P w K mg base CX0 1 f fd ["says"] (spBc K) := by
  refine F.ok scBc (fun vs H Q E h => ?_) (fun cdv A outer s H vs Q E hr h => ⟨_, pss_one (ps_ret (pe_op op_sub (pe_bits (pe_callB call_len_seq (by rfl) B.len PySem.boot_len (pa_cons (pv 0) pa_nil))) pe_int)), ?_⟩)
  · obtain ⟨a, xs, n, rfl, _⟩ := h
    rfl
  · obtain ⟨a, xs, n, rfl, hS, hn, hl, k⟩ := h
    refine ⟨_, rfl, a, xs, rfl, .inl hS, _, rfl, _, _, rfl, rfl, ?_⟩
    have e : ((Builtin.Int.intBits ((xs.length : Nat) : Int) : Nat) : Int) - 1 = n := by
      rw [hl, bits_len n hn]
      omega
    show Q (.int (((Builtin.Int.intBits ((xs.length : Nat) : Int) : Nat) : Int) - 1)) H
    rw [e]
    exact k
theorem ok_hb {f : Addr} {fd : FuncData} (F : Fun K "has_bit" "has_bit" sHb f fd) : FnOk P w K mg base CX0 1 f fd ["x", "i"] spHb := by
  refine F.ok scHb (fun vs H Q E h => ?_) (fun cdv A outer s H vs Q E hr h => ⟨_, pss_one (ps_ret (pe_cmpR op_eq (pe_op op_and (pe_op op_shr (pv 0) (pv 1)) pe_int) pe_int (nomark _))), ?_⟩)
  · obtain ⟨x, i, rfl, _⟩ := h
    rfl
  · obtain ⟨x, i, rfl, k⟩ := h
    refine ⟨_, rfl, _, rfl, (x : Int), (i : Int), rfl, rfl, by omega, _, _, rfl, rfl, rfl, ?_⟩
    show Q (.bl (decide (V.int (Builtin.bitAnd ((x : Int) / 2 ^ ((i : Int)).toNat) 1) = V.int 1))) H
    rw [hb_is]
    exact k
theorem ok_tu {f : Addr} {fd : FuncData} (F : Fun K "turned" "turned" sTu f fd) : FnOk P w K mg base CX0 1 f fd ["x", "i"] spTu := by
  refine F.ok scTu (fun vs H Q E h => ?_) (fun cdv A outer s H vs Q E hr h => ⟨_, pss_one (ps_ret (pe_op op_xor (pv 0) (pe_op op_shl pe_int (pv 1)))), ?_⟩)
  · obtain ⟨x, i, rfl, _⟩ := h
    rfl
  · obtain ⟨x, i, rfl, hi, k⟩ := h
    refine ⟨_, rfl, _, rfl, 1, (i : Int), rfl, rfl, cpow hi, _, _, rfl, rfl, ?_⟩
    show Q (.int (Builtin.bitXor (x : Int) (1 * 2 ^ ((i : Int)).toNat))) H
    rw [shl_nat, xor_nat]
    exact k
theorem ok_wb {f : Addr} {fd : FuncData} (F : Fun K "with_bit" "with_bit" sWb f fd) : FnOk P w K mg base CX0 1 f fd ["x", "i"] spWb := by
  refine F.ok scWb (fun vs H Q E h => ?_) (fun cdv A outer s H vs Q E hr h => ⟨_, pss_one (ps_ret (pe_op op_or (pv 0) (pe_op op_shl pe_int (pv 1)))), ?_⟩)
  · obtain ⟨x, i, rfl, _⟩ := h
    rfl
  · obtain ⟨x, i, rfl, hi, k⟩ := h
    refine ⟨_, rfl, _, rfl, 1, (i : Int), rfl, rfl, cpow hi, _, _, rfl, rfl, ?_⟩
    show Q (.int (Builtin.bitOr (x : Int) (1 * 2 ^ ((i : Int)).toNat))) H
    rw [shl_nat, or_nat]
    exact k
theorem ok_sz {f : Addr} {fd : FuncData} (F : Fun K "size_of" "size_of" sSz f fd) : FnOk P w K mg base CX0 1 f fd ["s"] spSz := by
  refine F.ok scSz (fun vs H Q E h => ?_) (fun cdv A outer s H vs Q E hr h => ⟨_, pss_cons (ps_set (i := 1) scSz.nd rfl (.inl rfl) pe_int)
    (pss_cons (ps_while PassesOwn.never (pt_cmpR op_gt (pv 0) pe_int (nomark _)) (pss_cons (ps_set (i := 1) scSz.nd rfl (.inl rfl) (pe_op op_add (pv 1) (pe_op op_and (pv 0) pe_int))) (pss_one (ps_set (i := 0) scSz.nd rfl (.inl rfl) (pe_op op_shr (pv 0) pe_int)))))
    (pss_one (ps_ret (pv 1)))), ?_⟩)
  · obtain ⟨n, rfl, _⟩ := h
    rfl
  · obtain ⟨n, rfl, hn, k⟩ := h
    refine while_by (fun σ H' => ∃ (m c : Nat), σ = [some (.int m), some (.int c)] ∧ H' = H ∧ m < 32 ∧ c + pop m = pop n)
      (fun σ _ => match σ with | [some (.int b), _] => b.toNat | _ => 0) ⟨n, 0, rfl, rfl, hn, by omega⟩ ?_ (fun σ H Q Q' hq ⟨v, e, i, j, h1, h2, k, ek, h⟩ => ⟨v, e, i, j, h1, h2, k, ek, hq _ _ h⟩)
    rintro σ H' ⟨m, c, rfl, rfl, hm, hc⟩
    refine ⟨_, rfl, _, _, rfl, rfl, _, rfl, ?_⟩
    by_cases e : m = 0
    · subst e
      refine cond_f (by decide) ⟨_, rfl, ?_⟩
      rw [pop_zero] at hc
      have e2 : (c : Int) = (pop n : Nat) := by omega
      show Q (.int (c : Int)) H'
      rw [e2]
      exact k
    · refine cond_t (by simp; omega) ?_
      refine ⟨_, rfl, _, rfl, _, _, rfl, rfl, _, _, rfl, rfl, _, rfl, (m : Int), 1, rfl, rfl, by omega, ⟨m / 2, c + m % 2, ?_, rfl, by omega, ?_⟩, ?_⟩
      · have h1 : Builtin.bitAnd (m : Int) 1 = ((m % 2 : Nat) : Int) := by
          rw [show (1 : Int) = ((1 : Nat) : Int) from rfl, and_nat, Nat.and_one_is_mod]
        have h2 : (m : Int) / 2 ^ ((1 : Int)).toNat = ((m / 2 : Nat) : Int) := rfl
        show [some (V.int ((m : Int) / 2 ^ ((1 : Int)).toNat)), some (V.int ((c : Int) + Builtin.bitAnd (m : Int) 1))] = _
        rw [h1, h2]
        rfl
      · have := pop_step m hm
        omega
      · show (((m : Int) / 2 ^ ((1 : Int)).toNat)).toNat < ((m : Int)).toNat
        have h2 : (m : Int) / 2 ^ ((1 : Int)).toNat = ((m / 2 : Nat) : Int) := rfl
        rw [h2]
        omega
theorem ok_mo {f : Addr} {fd : FuncData} (F : Fun K "meets_oddly" "meets_oddly" sMo f fd) (G : Hs P w K mg base CX0 1 "size_of" spSz) : FnOk P w K mg base CX0 2 f fd ["x", "s"] spMo := by
  refine F.ok scMo (fun vs H Q E h => ?_) (fun cdv A outer s H vs Q E hr h => ⟨_, pss_one (ps_ret (pe_cmpR op_eq (pe_op op_mod (pe_h G hr (by decide) (pa_cons (pe_op op_and (pv 0) (pv 1)) pa_nil)) pe_int) pe_int (nomark _))), ?_⟩)
  · obtain ⟨x, i, rfl, _⟩ := h
    rfl
  · obtain ⟨x, i, rfl, hx, k⟩ := h
    refine ⟨_, rfl, _, rfl, (x : Int), (i : Int), rfl, rfl, x &&& i, ?_, Nat.lt_of_le_of_lt Nat.and_le_left hx, _, _, rfl, rfl, by show (0 : Int) < 2; decide, rfl, ?_⟩
    · show [V.int (Builtin.bitAnd (x : Int) (i : Int))] = _
      rw [and_nat]
    · have e : decide (V.int (((pop (x &&& i) : Nat) : Int) % 2) = V.int 1) = (pop (x &&& i) % 2 == 1) := by
        by_cases h : pop (x &&& i) % 2 = 1
        · rw [h, decide_eq_true (by congr 1; omega)] <;> rfl
        · rw [beq_eq_false_iff_ne.mpr h]
          exact decide_eq_false fun q => h (by have := V.int.inj q; omega)
      show Q (.bl (decide (V.int (((pop (x &&& i) : Nat) : Int) % 2) = V.int 1))) H
      rw [e]
      exact k
end
end Bw
namespace Bw
open PySem PySem.Spec PyProof.Rows L2
/-! comprehensions over a range -/
theorem flt_yes {α : Type} {p : Nat → Bool} {v : Nat → α} {i : Nat} (h : p i = true) : ((List.range (i + 1)).filter p).map v = ((List.range i).filter p).map v ++ [v i] := by
  rw [List.range_succ, List.filter_append, List.filter_cons, if_pos h, List.filter_nil, List.map_append] <;> rfl
theorem flt_no {α : Type} {p : Nat → Bool} {v : Nat → α} {i : Nat} (h : p i = false) : ((List.range (i + 1)).filter p).map v = ((List.range i).filter p).map v := by
  rw [List.range_succ, List.filter_append, List.filter_cons, if_neg (by rw [h]; decide), List.filter_nil, List.append_nil]
theorem map_more {α : Type} {v : Nat → α} {i : Nat} : (List.range (i + 1)).map v = (List.range i).map v ++ [v i] := by
  rw [List.range_succ, List.map_append] <;> rfl
theorem flt_len {α : Type} {p : Nat → Bool} {v : Nat → α} {i : Nat} (h : i ≤ 1000) : (((List.range i).filter p).map v).length < sizeLine := by
  rw [List.length_map]
  exact Nat.lt_of_le_of_lt (List.length_filter_le _ _) (by rw [List.length_range]; exact small1000 h)
theorem map_len {α : Type} {v : Nat → α} {i : Nat} (h : i ≤ 1000) : ((List.range i).map v).length < sizeLine := by
  rw [List.length_map, List.length_range]
  exact small1000 h
/-- the list at D that a comprehension grows; all else that was tracked stands -/
def Gr (H1 : Hp) (D : Addr) (l : List V) (H : Hp) : Prop := Same H1 H ∧ H D = some (.lst l)
theorem Gr.start {H1 : Hp} {D : Addr} (new : H1 D = none) : Gr H1 D [] (upd H1 D (.lst [])) := ⟨Same.upd new, upd_same⟩
theorem Gr.to {H1 H H' : Hp} {D : Addr} {l : List V} (g : Gr H1 D l H) (s : Same H H') : Gr H1 D l H' := ⟨g.1.trans s, s _ _ g.2⟩
theorem Gr.put {H1 H : Hp} {D : Addr} {l l' : List V} {y : V} (new : H1 D = none) (g : Gr H1 D l H) (hl : l.length < sizeLine) (e : l' = l ++ [y]) :
    ∃ acc, H D = some (.lst acc) ∧ acc.length < sizeLine ∧ Gr H1 D l' (upd H D (.lst (acc ++ [y]))) := by
  subst e
  refine ⟨l, g.2, hl, fun b o q => ?_, upd_same⟩
  rw [upd_ne (ne_of_none q new)]
  exact g.1 b o q
theorem Gr.end {H1 H : Hp} {D : Addr} {l : List V} {Q : VK} (new : H1 D = none) (g : Gr H1 D l H) (k : NL H1 l Q) : Q (.ref D) H := k H D g.1 new g.2
theorem lc_rangeY {n j : Nat} {te : TE} {vs : List Nat} {σ : L2.St} {H1 : Hp} {D : Addr} {Qd : Hp → Prop} (Pv : Nat → Hp → Prop) (h0 : Pv 0 (upd H1 D (.lst [])))
    (hs : ∀ (i : Nat) (H : Hp), i < n → Pv i H → wipe ((wipe σ vs).set j (some (.int (0 + i)))) vs = wipe σ vs ∧ te ((wipe σ vs).set j (some (.int (0 + i)))) H fun y H4 => ∃ acc, H4 D = some (.lst acc) ∧ acc.length < sizeLine ∧ Pv (i + 1) (upd H4 D (.lst (acc ++ [y])))) (hd : ∀ H, Pv n H → Qd H) :
    ∃ W : Nat → Nat → Hp → Prop, (∃ m, W 0 m (upd H1 D (.lst []))) ∧ ∀ i m H, W i m H →
      ((Itr 0 n).stop i H ∧ Qd H) ∨ ((Itr 0 n).go i H ∧ ∃ Nx : Hp → Prop, (∀ H', Nx H' → ∃ m', m' < m ∧ W (i + 1) m' H') ∧ ∀ x H', (Itr 0 n).yld i H x H' → gName j x (wipe σ vs) H' fun σ2 H2 => wipe σ2 vs = wipe σ vs ∧ tYes σ2 H2 fun b H3 =>
        if b = true then te σ2 H3 fun y H4 => ∃ acc, H4 D = some (.lst acc) ∧ acc.length < sizeLine ∧ Nx (upd H4 D (.lst (acc ++ [y]))) else Nx H3) := by
  refine lc_range (lo := 0) (n := n) Pv h0 (fun i H hi p => ?_) hd
  obtain ⟨q1, q2⟩ := hs i H hi p
  exact ⟨q1, iteT (B := Pv (i + 1) H) q2⟩
theorem zint (i : Nat) : (0 : Int) + (i : Int) = (i : Int) := Int.zero_add _
section
variable {P : Program} {w : World} {K : PySem.W.Frag} {mg : Str → Option Value} {base : Heap}
theorem ok_wy (B : Bn mg) {f : Addr} {fd : FuncData} (F : Fun K "words_of_yes" "words_of_yes" sWy f fd) : FnOk P w K mg base CX0 1 f fd ["says"] (spWy K) := by
  refine F.ok scWy (fun vs H Q E h => ?_) (fun cdv A outer s H vs Q E hr h => ⟨_, pss_one (ps_ret (pe_lc (own := [("x", 1)]) (g := gName 1) (tt := tTest (tOp rEq (tOp (rIxL K) (tVar 0) (tVar 1)) (tC (.int 1)))) (by rfl) scWy.nd (pi_range1 rfl B.range (pa_cons (pe_callB call_len_seq (by rfl) B.len PySem.boot_len (pa_cons (pv 0) pa_nil)) pa_nil))
      (blkOk_by (N := ["says", "x"]) (sc := defScope sWy) (by decide +kernel)) (fun _ _ _ _ _ => pg_name (i := 1) scWy.nd rfl (.inl rfl))
      (fun _ _ _ _ _ => pts_one (pt_cmpR op_eq (pe_ix ix_list (pv 0) (pv 1) (fun _ _ => rfl)) pe_int (nomark _))) (fun _ _ _ _ _ => pv 1))), ?_⟩)
  · obtain ⟨x, i, rfl, _⟩ := h
    rfl
  · obtain ⟨a, f, rfl, hf, hS, k⟩ := h
    have hp := pow_le32 hf.lt
    refine ⟨_, rfl, a, _, rfl, .inl hS, _, rfl, by omega, ?_, fun D new => ?_⟩
    · rw [sv_len hf]
      omega
    · rw [show (((sv f).length : Nat) : Int).toNat = 2 ^ f.n by rw [sv_len hf]; rfl]
      refine lc_range (lo := 0) (n := 2 ^ f.n) (fun i H' => Gr H D (((List.range i).filter f.at_).map fun (x : Nat) => V.int x) H') (Gr.start new) (fun i H' hi g => ?_) (fun H' g => g.end new k)
      refine ⟨rfl, _, rfl, _, rfl, a, _, _, V.int (bi (f.at_ i)), rfl, rfl, g.1.seq hS, ?_, rfl, _, rfl, ?_⟩
      · rw [zint]
        exact atI_nat (sv_at hf hi)
      · cases e : f.at_ i with
        | true => exact cond_t (by rfl) ⟨_, rfl, g.put new (flt_len (by omega)) (by rw [zint]; exact flt_yes e)⟩
        | false =>
          refine cond_f (by rfl) ?_
          show Gr _ _ _ _
          rw [flt_no e]
          exact g
end
end Bw
namespace Bw
open PySem PySem.Spec PyProof.Rows L2
abbrev sPs : Stmt := top 13
abbrev sPp : Stmt := top 14
abbrev sLs : Stmt := top 15
theorem scPs : FnScope ["says", "s", "total", "x", "says_yes"] ["says", "s"] (defScope sPs) := ⟨rfl, rfl, rfl, by decide +kernel, rfl, by decide +kernel, by decide +kernel⟩
theorem scPp : FnScope ["says", "s"] ["says"] (defScope sPp) := ⟨rfl, rfl, rfl, by decide +kernel, rfl, by decide +kernel, by decide +kernel⟩
theorem scLs : FnScope ["says", "sums", "s", "total", "k"] ["says"] (defScope sLs) := ⟨rfl, rfl, rfl, by decide +kernel, rfl, by decide +kernel, by decide +kernel⟩
/-! for i, x in enumerate(list that stands still) -/
theorem for_en {K : PySem.W.Frag} {a : Addr} {xs : List V} {g : TG} {tb : TS} {D : Ends} {σ : L2.St} {H : Hp} (Pv : Nat → L2.St → Hp → Prop) (h0 : Pv 0 σ H) (hl : ∀ i σ H, Pv i σ H → SqL K H a xs)
    (hs : ∀ i x T σ H, xs[i]? = some x → H T = none → Pv i σ H → g (.ref T) σ (upd H T (.tup [.int i, x])) fun σ2 H2 => tb { D with nx := Pv (i + 1), ct := Pv (i + 1), bk := D.nx } σ2 H2) (hd : ∀ σ H, Pv xs.length σ H → D.nx σ H) :
    ∃ W : Nat → Nat → L2.St → Hp → Prop, (∃ m, W 0 m σ H) ∧ ∀ i m σ H, W i m σ H →
      ((Ite K a).stop i H ∧ D.nx σ H) ∨ ((Ite K a).go i H ∧ ∃ Nx : L2.St → Hp → Prop, (∀ σ' H', Nx σ' H' → ∃ m', m' < m ∧ W (i + 1) m' σ' H') ∧ ∀ x H', (Ite K a).yld i H x H' → g x σ H' fun σ2 H2 => tb { D with nx := Nx, ct := Nx, bk := D.nx } σ2 H2) := by
  refine ⟨fun i m σ H => m + i = xs.length ∧ Pv i σ H, ⟨xs.length, rfl, h0⟩, fun i m σ H w => ?_⟩
  obtain ⟨hm, p⟩ := w
  have q := hl i σ H p
  cases m with
  | zero =>
    have e : i = xs.length := by omega
    subst e
    exact .inl ⟨⟨xs, q, Nat.le_refl _⟩, hd σ H p⟩
  | succ m =>
    have hlt : i < xs.length := by omega
    refine .inr ⟨⟨xs, xs[i], q, List.getElem?_eq_getElem hlt⟩, Pv (i + 1), fun σ' H' p' => ⟨m, Nat.lt_succ_self m, by omega, p'⟩, fun v H' y => ?_⟩
    obtain ⟨T, x, e1, e2, e3, e4⟩ := y
    subst e1 e3
    exact hs i x T σ H (e4 xs q) e2 p
theorem vals_one : ∀ {xs ys : List V} {us : List Value}, Vals xs us → Vals ys us → ys = xs := fun a b => Vals.inj b a
/-- the sums that stand for parts -/
def pterm (f : Krdk.Answer) (s x : Nat) : Int := if Krdk.meet f.n s x % 2 = 0 then f.sign x else -f.sign x
def psumTo (f : Krdk.Answer) (s i : Nat) : Int := ((List.range i).map (pterm f s)).foldl (· + ·) 0
theorem psumTo_all (f : Krdk.Answer) (s : Nat) : psumTo f s (2 ^ f.n) = psum f s := rfl
theorem psumTo_more (f : Krdk.Answer) (s i : Nat) : psumTo f s (i + 1) = psumTo f s i + pterm f s i := by
  unfold psumTo
  rw [map_more, List.foldl_append] <;> rfl
theorem pterm_is {f : Krdk.Answer} (hf : WF f) {s x : Nat} (hs : s < 2 ^ f.n) (hx : x < 2 ^ f.n) : pterm f s x = if (pop (x &&& s) % 2 == 1) = f.at_ x then 1 else -1 := by
  unfold pterm
  rw [meet_pop hf.lt hs hx]
  unfold Krdk.Answer.sign
  have h2 : pop (x &&& s) % 2 = 0 ∨ pop (x &&& s) % 2 = 1 := by omega
  rcases h2 with e | e <;> rw [e] <;> cases f.at_ x <;> rfl
theorem pterm_abs (f : Krdk.Answer) (s x : Nat) : -1 ≤ pterm f s x ∧ pterm f s x ≤ 1 := by
  unfold pterm Krdk.Answer.sign
  split <;> split <;> omega
theorem psumTo_abs (f : Krdk.Answer) (s : Nat) : ∀ i : Nat, -(i : Int) ≤ psumTo f s i ∧ psumTo f s i ≤ i
  | 0 => by
    show -(0 : Int) ≤ 0 ∧ (0 : Int) ≤ 0
    omega
  | i + 1 => by
    have h1 := psumTo_abs f s i
    have h2 := pterm_abs f s i
    rw [psumTo_more]
    omega
theorem psum_abs {f : Krdk.Answer} (hf : WF f) (s : Nat) : -32 ≤ psum f s ∧ psum f s ≤ 32 := by
  have h := psumTo_abs f s (2 ^ f.n)
  have hp := pow_le32 hf.lt
  rw [psumTo_all] at h
  omega
def sq (f : Krdk.Answer) (s : Nat) : Int := psum f s * psum f s
def levTo (f : Krdk.Answer) (k i : Nat) : Int := (((List.range i).filter fun s => pop s == k).map (sq f)).sum
theorem levTo_all {f : Krdk.Answer} (hf : WF f) (k : Nat) : levTo f k (2 ^ f.n) = lev f k := by
  unfold levTo lev
  have e : ((List.range (2 ^ f.n)).filter fun s => pop s == k) = (Krdk.words f.n).filter fun s => Krdk.bits f.n s == k := by
    refine List.filter_congr fun s hs => ?_
    rw [bits_pop hf.lt (List.mem_range.mp hs)]
  rw [e] <;> rfl
theorem levTo_more (f : Krdk.Answer) (k i : Nat) : levTo f k (i + 1) = if k = pop i then levTo f k i + sq f i else levTo f k i := by
  unfold levTo
  by_cases h : k = pop i
  · rw [if_pos h, flt_yes (by simp [h]), List.sum_append]
    simp
  · rw [if_neg h, flt_no (by simpa using fun q => h q.symm)]
theorem set_more (f : Krdk.Answer) (m i : Nat) : ((List.range m).map fun k => V.int (levTo f k i)).set (pop i) (.int (levTo f (pop i) i + sq f i)) = (List.range m).map fun k => V.int (levTo f k (i + 1)) := by
  apply List.ext_getElem
  · simp
  · intro k h1 h2
    rw [List.getElem_set]
    simp only [List.getElem_map, List.getElem_range, levTo_more]
    by_cases h : pop i = k
    · rw [if_pos h, if_pos h.symm, h]
    · rw [if_neg h, if_neg (fun q => h q.symm)]
def spPs (K : PySem.W.Frag) : Sp := fun vs H Q _ => ∃ (a : Addr) (f : Krdk.Answer) (s : Nat), vs = [.ref a, .int s] ∧ WF f ∧ SqL K H a (sv f) ∧ s < 2 ^ f.n ∧ SV H (.int (psum f s)) Q
def spPp (K : PySem.W.Frag) : Sp := fun vs H Q _ => ∃ (a : Addr) (f : Krdk.Answer), vs = [.ref a] ∧ WF f ∧ SqL K H a (sv f) ∧ NL H ((List.range (2 ^ f.n)).map fun s => V.int (psum f s)) Q
def spLs (K : PySem.W.Frag) : Sp := fun vs H Q _ => ∃ (a : Addr) (f : Krdk.Answer), vs = [.ref a] ∧ WF f ∧ SqL K H a (sv f) ∧ NL H ((List.range (f.n + 1)).map fun k => V.int (lev f k)) Q
/-- the list at p may change; all else that was tracked stands -/
def But (p : Addr) (H H' : Hp) : Prop := ∀ b o, H b = some o → b ≠ p → H' b = some o
theorem But.refl (p : Addr) (H : Hp) : But p H H := fun _ _ e _ => e
theorem But.upd {p : Addr} {H H' : Hp} (s : But p H H') {o : HO} : But p H (upd H' p o) := fun b u e n => by
  rw [upd_ne n]
  exact s b u e n
theorem But.new {p q : Addr} {H H' : Hp} (s : But p H H') {o : HO} (h : H' q = none) : But p H (L2.upd H' q o) := fun b u e n => by
  have e2 := s b u e n
  rw [upd_ne (ne_of_none e2 h)]
  exact e2
theorem But.seq {K : PySem.W.Frag} {p a : Addr} {H H' : Hp} {xs : List V} (s : But p H H') (h : SqL K H a xs) (n : a ≠ p) : SqL K H' a xs := by
  rcases h with (h | ⟨o, h⟩) | h
  · exact .inl (.inl (s _ _ h n))
  · exact .inl (.inr ⟨o, s _ _ h n⟩)
  · exact .inr h
theorem But.same {p : Addr} {H H1 H' : Hp} (s : But p H1 H') (h : Same H H1) (n : H p = none) : Same H H' := fun b o e => s b o (h b o e) (ne_of_none e n)
section
variable {P : Program} {w : World} {K : PySem.W.Frag} {mg : Str → Option Value} {base : Heap}
theorem bl_dec (a b : Bool) : decide (V.bl a = V.bl b) = decide (a = b) := by cases a <;> cases b <;> rfl
theorem bi_one (b : Bool) : decide (V.int (bi b) = V.int 1) = b := by cases b <;> rfl
theorem bi_zero (b : Bool) : decide (V.int (bi b) = V.int 0) = !b := by cases b <;> rfl
theorem ok_ps (B : Bn mg) {f : Addr} {fd : FuncData} (F : Fun K "part_sum" "part_sum" sPs f fd) (G : Hs P w K mg base CX0 2 "meets_oddly" spMo) : FnOk P w K mg base CX0 3 f fd ["says", "s"] (spPs K) := by
  refine F.ok scPs (fun vs H Q E h => ?_) (fun cdv A outer s H vs Q E hr h => ⟨_, pss_cons (ps_set (i := 2) scPs.nd rfl (.inl rfl) pe_int)
    (pss_cons (ps_for PassesOwn.never rfl (pi_enum (by rfl) B.enumerate (pa_cons (pv 0) pa_nil)) (pg_tup rfl (pgs_cons (pg_name (i := 3) scPs.nd rfl (.inl rfl)) (pgs_cons (pg_name (i := 4) scPs.nd rfl (.inl rfl)) pgs_nil)))
      (pss_one (ps_if (pt_cmpR op_eq (pe_h G hr (by decide) (pa_cons (pv 3) (pa_cons (pv 1) pa_nil))) (pe_cmpR op_eq (pv 4) pe_int (nomark _)) (nomark _))
        (pss_one (ps_set (i := 2) scPs.nd rfl (.inl rfl) (pe_op op_add (pv 2) pe_int))) (pss_one (ps_set (i := 2) scPs.nd rfl (.inl rfl) (pe_op op_sub (pv 2) pe_int))))))
    (pss_one (ps_ret (pv 2)))), ?_⟩)
  · obtain ⟨a, f, s, rfl, _⟩ := h
    rfl
  · obtain ⟨a, f, s, rfl, hf, hS, hs, k⟩ := h
    have hp := pow_le32 hf.lt
    refine ⟨_, rfl, a, sv f, rfl, hS, ?_⟩
    refine for_en (K := K) (a := a) (xs := sv f) (fun i σ H' => ∃ v1 v2 : Option V, σ = [some (.ref a), some (.int s), some (.int (psumTo f s i)), v1, v2] ∧ Same H H') ⟨none, none, rfl, Same.refl H⟩ (fun i σ H' q => ?_) (fun i x T σ H' hi hT q => ?_) (fun σ H' q => ?_)
    · obtain ⟨v1, v2, _, s1⟩ := q
      exact s1.seq hS
    · obtain ⟨v1, v2, rfl, s1⟩ := q
      have hlt : i < 2 ^ f.n := by
        have h2 := (List.getElem?_eq_some_iff.mp hi).1
        rw [sv_len hf] at h2
        exact h2
      rw [sv_at hf hlt] at hi
      cases hi
      have s2 : Same H (upd H' T (.tup [.int i, .int (bi (f.at_ i))])) := s1.trans (Same.upd hT)
      refine ⟨T, _, rfl, SqT.of upd_same, rfl, _, _, rfl, _, _, rfl, rfl, ?_⟩
      refine ⟨_, rfl, _, rfl, i, s, rfl, by omega, _, rfl, rfl, rfl, _, rfl, ?_⟩
      rw [bl_dec, bi_one]
      have pt := pterm_is hf hs hlt
      have pm := psumTo_more f s i
      by_cases e : (pop (i &&& s) % 2 == 1) = f.at_ i
      · rw [if_pos e] at pt
        refine cond_t (decide_eq_true e) ⟨_, rfl, _, _, rfl, rfl, some (.int i), some (.int (bi (f.at_ i))), ?_, s2⟩
        rw [pm, pt]
        rfl
      · rw [if_neg e] at pt
        refine cond_f (decide_eq_false e) ⟨_, rfl, _, _, rfl, rfl, some (.int i), some (.int (bi (f.at_ i))), ?_, s2⟩
        rw [pm, pt]
        rfl
    · obtain ⟨v1, v2, rfl, s1⟩ := q
      refine ⟨_, rfl, ?_⟩
      rw [sv_len hf, psumTo_all]
      exact k _ s1
theorem ok_pp (B : Bn mg) {f : Addr} {fd : FuncData} (F : Fun K "part_sums" "part_sums" sPp f fd) (G : Hs P w K mg base CX0 3 "part_sum" (spPs K)) : FnOk P w K mg base CX0 4 f fd ["says"] (spPp K) := by
  refine F.ok scPp (fun vs H Q E h => ?_) (fun cdv A outer s H vs Q E hr h => ⟨_, pss_one (ps_ret (pe_lc (own := [("s", 1)]) (g := gName 1) (tt := tYes) (te := tCall (spPs K) [] E0 (tCons (tVar 0) (tCons (tVar 1) tNil))) (by rfl) scPp.nd (pi_range1 rfl B.range (pa_cons (pe_callB call_len_seq (by rfl) B.len PySem.boot_len (pa_cons (pv 0) pa_nil)) pa_nil))
      (blkOk_by (N := ["says", "s"]) (sc := defScope sPp) (by decide +kernel)) (fun _ _ _ _ _ => pg_name (i := 1) scPp.nd rfl (.inl rfl))
      (fun _ _ _ _ _ => pts_nil) (fun _ _ _ _ _ => pe_h G hr (by decide) (pa_cons (pv 0) (pa_cons (pv 1) pa_nil))))), ?_⟩)
  · obtain ⟨x, i, rfl, _⟩ := h
    rfl
  · obtain ⟨a, f, rfl, hf, hS, k⟩ := h
    have hp := pow_le32 hf.lt
    refine ⟨_, rfl, a, _, rfl, .inl hS, _, rfl, by omega, ?_, fun D new => ?_⟩
    · rw [sv_len hf]
      omega
    · rw [show (((sv f).length : Nat) : Int).toNat = 2 ^ f.n by rw [sv_len hf]; rfl]
      refine lc_rangeY (n := 2 ^ f.n) (fun i H' => Gr H D ((List.range i).map fun s => V.int (psum f s)) H') (Gr.start new) (fun i H' hi g => ?_) (fun H' g => g.end new k)
      refine ⟨rfl, _, rfl, _, rfl, a, f, i, ?_, hf, g.1.seq hS, hi, fun H2 s2 => ?_⟩
      · rw [zint]
        rfl
      · exact (g.to s2).put new (map_len (by omega)) map_more
theorem ok_ls (B : Bn mg) {f : Addr} {fd : FuncData} (F : Fun K "level_sums" "level_sums" sLs f fd) (Gb : Hs P w K mg base CX0 1 "bit_count" (spBc K)) (Gp : Hs P w K mg base CX0 4 "part_sums" (spPp K)) (Gs : Hs P w K mg base CX0 1 "size_of" spSz) :
    FnOk P w K mg base CX0 5 f fd ["says"] (spLs K) := by
  refine F.ok scLs (fun vs H Q E h => ?_) (fun cdv A outer s H vs Q E hr h => ⟨_, pss_cons (ps_set (i := 1) scLs.nd rfl (.inl rfl) (pe_op op_rep (pe_lst (pa_cons pe_int pa_nil)) (pe_op op_add (pe_h Gb hr (by decide) (pa_cons (pv 0) pa_nil)) pe_int)))
    (pss_cons (ps_for PassesOwn.never rfl (pi_enum (by rfl) B.enumerate (pa_cons (pe_h Gp hr (by decide) (pa_cons (pv 0) pa_nil)) pa_nil)) (pg_tup rfl (pgs_cons (pg_name (i := 2) scLs.nd rfl (.inl rfl)) (pgs_cons (pg_name (i := 3) scLs.nd rfl (.inl rfl)) pgs_nil)))
      (pss_cons (ps_set (i := 4) scLs.nd rfl (.inl rfl) (pe_h Gs hr (by decide) (pa_cons (pv 2) pa_nil)))
        (pss_one (ps_asg (pe_op op_add (pe_ix ix_list (pv 1) (pv 4) (fun _ _ => rfl)) (pe_op op_mul (pv 3) (pv 3))) (pg_sub (pv 1) (pv 4) set_list)))))
    (pss_one (ps_ret (pv 1)))), ?_⟩)
  · obtain ⟨x, i, rfl, _⟩ := h
    rfl
  · obtain ⟨a, f, rfl, hf, hS, k⟩ := h
    have hp := pow_le32 hf.lt
    have hn := hf.n5
    refine ⟨by show 1 ≤ sizeLine; decide, fun l hl => ?_⟩
    have s0 : Same H (upd H l (.lst [.int 0])) := Same.upd hl
    refine ⟨_, rfl, a, sv f, f.n, rfl, s0.seq hS, hn, sv_len hf, _, _, rfl, rfl, l, _, _, rfl, rfl, upd_same, by omega, by omega, ?_, fun p hp0 => ?_⟩
    · exact size_small (by simp; omega)
    have e0 : (List.replicate ((f.n : Int) + 1).toNat [V.int 0]).flatten = (List.range (f.n + 1)).map fun k => V.int (levTo f k 0) := by
      rw [show ((f.n : Int) + 1).toNat = f.n + 1 by omega, List.flatten_replicate_singleton]
      apply List.ext_getElem
      · simp
      · intro j h1 h2
        simp [levTo]
    rw [e0]
    have s1 : Same H (upd (upd H l (.lst [.int 0])) p (.lst ((List.range (f.n + 1)).map fun k => V.int (levTo f k 0)))) := s0.trans (Same.upd hp0)
    refine ⟨_, rfl, a, f, rfl, hf, s1.seq hS, fun H1 q sp1 hq0 hq => ⟨q, _, rfl, SqL.of hq, ?_⟩⟩
    have hp1 : H1 p = some (.lst ((List.range (f.n + 1)).map fun k => V.int (levTo f k 0))) := sp1 _ _ upd_same
    have npq : q ≠ p := fun e => by
      rw [e, upd_same] at hq0
      cases hq0
    have pnone : H p = none := s0.free hp0
    refine for_en (K := K) (a := q) (xs := (List.range (2 ^ f.n)).map fun s => V.int (psum f s)) (fun i σ H' => ∃ v1 v2 v3 : Option V, σ = [some (.ref a), some (.ref p), v1, v2, v3] ∧ But p H1 H' ∧ H' p = some (.lst ((List.range (f.n + 1)).map fun k => V.int (levTo f k i))))
      ⟨none, none, none, rfl, But.refl p H1, hp1⟩ (fun i σ H' z => ?_) (fun i x T σ H' hi hT z => ?_) (fun σ H' z => ?_)
    · obtain ⟨v1, v2, v3, _, s2, _⟩ := z
      exact s2.seq (SqL.of hq) npq
    · obtain ⟨v1, v2, v3, rfl, s2, h2⟩ := z
      have hlt : i < 2 ^ f.n := by
        have h3 := (List.getElem?_eq_some_iff.mp hi).1
        simpa using h3
      have hx : x = V.int (psum f i) := by
        rw [List.getElem?_map, List.getElem?_range hlt] at hi
        exact (Option.some.inj hi).symm
      subst hx
      have hpop := pop_le f.n hf.lt i hlt
      have habs := psum_abs hf i
      refine ⟨T, _, rfl, SqT.of upd_same, rfl, _, _, rfl, _, _, rfl, rfl, ?_⟩
      refine ⟨_, rfl, i, rfl, by omega, ?_⟩
      have hpT : (upd H' T (.tup [.int i, .int (psum f i)])) p = some (.lst ((List.range (f.n + 1)).map fun k => V.int (levTo f k i))) := by
        rw [upd_ne (ne_of_none h2 hT)]
        exact h2
      refine ⟨_, rfl, _, rfl, p, _, ((pop i : Nat) : Int), V.int (levTo f (pop i) i), rfl, rfl, SqL.of hpT, atI_nat ?_, _, rfl, _, rfl, psum f i, psum f i, rfl, rfl, .inl ⟨by omega, by omega⟩, _, _, rfl, rfl, ?_⟩
      · rw [List.getElem?_map, List.getElem?_range (by omega)] <;> rfl
      refine ⟨_, rfl, _, rfl, p, _, ((pop i : Nat) : Int), pop i, rfl, rfl, hpT, ?_, _, _, _, rfl, (s2.new hT).upd, ?_⟩
      · unfold ixN
        rw [if_pos (by omega), if_pos (by rw [List.length_map, List.length_range]; omega), Int.toNat_natCast]
      · rw [upd_same, ← set_more] <;> rfl
    · obtain ⟨v1, v2, v3, rfl, s2, h2⟩ := z
      refine ⟨_, rfl, ?_⟩
      rw [List.length_map, List.length_range] at h2
      refine k H' p (s2.same (s1.trans sp1) pnone) pnone ?_
      rw [h2]
      congr 3
      funext j
      rw [levTo_all hf]
end
end Bw
namespace Bw
open PySem PySem.Spec PyProof.Rows L2
/-- an own error class of the program -/
structure Er (K : PySem.W.Frag) (mg : Str → Option Value) (x : Str) (C : Addr) : Prop where
  gC : mg x = some (.ref C)
  xC : PySem.W.excIn K C [.type "Exception", .type "BaseException", .type "object"] "Exception.__new__" = true
  kC : PySem.W.keepIn K (.ref C) = true
  bC : PySem.W.subIn K (.ref C) (.type "BaseException") = some true
  tC : PySem.W.typeIn K (.ref C) = some (.type "type")
section
variable {X : Cx} {C : Addr} {x : Str} {p pos pos2 : Pos} {W : WX}
/-- raise X() -/
theorem ps_rz (hc : X.calm = true) (R : Er X.K X.mg x C) (tk : Takes X W) (hg : Gl X x := by rfl) (hdb : (x == ("__debug__" : Str)) = false := by decide) :
    PS X (.Raise (some (.Call (.Name x p) [] [] pos)) none pos2) (fun _ σ H => W (.ref C) none σ H) := by
  refine ps_raise (t := fun _ H Q => Q (.ref C) none H) hc tk fun pins s σ H Q J hq => wpAny_Call_Name_kw (ld_glob J hg R.gC (PySem.W.callWith_K0 (first := []) J.kIn R.kC ?_) hdb)
  show wpAny _ _ (call (.ref C) []) _ _ _
  obtain ⟨_, _, _, _, _, _, _, _, _, _, _, _, _, _, _, _, _, h1, h2, h3, h4⟩ := exc_obj J.kIn R.xC
  exact wpAny_call_exc_subT PySem.F.excBase_Exception h4 h1 h2 h3 (fun h' e made => mk_of J made (raises_own R.bC R.tC) hq (J.hok.gone made.new)) (Nat.zero_le _)
end
abbrev sCb : Stmt := top 20
abbrev sCw : Stmt := top 21
abbrev sSc : Stmt := top 23
abbrev sScs : Stmt := top 24
abbrev sSd : Stmt := top 25
abbrev sFw : Stmt := top 26
abbrev sIr : Stmt := top 27
theorem scCb : FnScope ["says", "i"] ["says", "i"] (defScope sCb) := ⟨rfl, rfl, rfl, by decide +kernel, rfl, by decide +kernel, by decide +kernel⟩
theorem scCw : FnScope ["says", "x"] ["says", "x"] (defScope sCw) := ⟨rfl, rfl, rfl, by decide +kernel, rfl, by decide +kernel, by decide +kernel⟩
theorem scSc : FnScope ["says", "i", "x"] ["says", "i"] (defScope sSc) := ⟨rfl, rfl, rfl, by decide +kernel, rfl, by decide +kernel, by decide +kernel⟩
theorem scScs : FnScope ["says", "i"] ["says"] (defScope sScs) := ⟨rfl, rfl, rfl, by decide +kernel, rfl, by decide +kernel, by decide +kernel⟩
theorem scSd : FnScope ["says"] ["says"] (defScope sSd) := ⟨rfl, rfl, rfl, by decide +kernel, rfl, by decide +kernel, by decide +kernel⟩
theorem scFw : FnScope ["says", "yeses"] ["says"] (defScope sFw) := ⟨rfl, rfl, rfl, by decide +kernel, rfl, by decide +kernel, by decide +kernel⟩
theorem scIr : FnScope ["says", "x", "i"] ["says"] (defScope sIr) := ⟨rfl, rfl, rfl, by decide +kernel, rfl, by decide +kernel, by decide +kernel⟩
def spCb (K : PySem.W.Frag) (CB : Addr) : Sp := fun vs H Q E => ∃ (a : Addr) (f : Krdk.Answer) (i : Nat), vs = [.ref a, .int i] ∧ WF f ∧ SqL K H a (sv f) ∧ (f.n ≤ i → E (.ref CB) none H) ∧ (i < f.n → Q .non H)
def spCw (K : PySem.W.Frag) (CR : Addr) : Sp := fun vs H Q E => ∃ (a : Addr) (f : Krdk.Answer) (x : Nat), vs = [.ref a, .int x] ∧ WF f ∧ SqL K H a (sv f) ∧ (2 ^ f.n ≤ x → E (.ref CR) none H) ∧ (x < 2 ^ f.n → Q .non H)
def spSc (K : PySem.W.Frag) : Sp := fun vs H Q _ => ∃ (a : Addr) (f : Krdk.Answer) (i : Nat), vs = [.ref a, .int i] ∧ WF f ∧ SqL K H a (sv f) ∧ i < f.n ∧ SV H (.int (swc f i)) Q
def spScs (K : PySem.W.Frag) : Sp := fun vs H Q _ => ∃ (a : Addr) (f : Krdk.Answer), vs = [.ref a] ∧ WF f ∧ SqL K H a (sv f) ∧ NL H ((List.range f.n).map fun i => V.int (swc f i)) Q
def spSd (K : PySem.W.Frag) : Sp := fun vs H Q _ => ∃ (a : Addr) (f : Krdk.Answer), vs = [.ref a] ∧ WF f ∧ SqL K H a (sv f) ∧ SV H (.int f.sides) Q
def spFw (K : PySem.W.Frag) : Sp := fun vs H Q _ => ∃ (a : Addr) (f : Krdk.Answer), vs = [.ref a] ∧ WF f ∧ SqL K H a (sv f) ∧ NL H (sv (Krdk.first f.n f.yes)) Q
def spIr (K : PySem.W.Frag) : Sp := fun vs H Q _ => ∃ (a : Addr) (f : Krdk.Answer), vs = [.ref a] ∧ WF f ∧ SqL K H a (sv f) ∧ Q (.bl f.rising) H
theorem sv_ints (f : Krdk.Answer) : sv f = (f.t.map bi).map V.int := by
  unfold sv
  rw [List.map_map] <;> rfl
theorem bi_ne (a b : Bool) : (!decide (V.int (bi a) = V.int (bi b))) = (a != b) := by cases a <;> cases b <;> rfl
theorem xor_lt {f : Krdk.Answer} {x i : Nat} (hx : x < 2 ^ f.n) (hi : i < f.n) : x ^^^ (2 ^ i) < 2 ^ f.n := Nat.xor_lt_two_pow hx (Nat.pow_lt_pow_right (by decide) hi)
theorem or_lt {f : Krdk.Answer} {x i : Nat} (hx : x < 2 ^ f.n) (hi : i < f.n) : x ||| (2 ^ i) < 2 ^ f.n := Nat.or_lt_two_pow hx (Nat.pow_lt_pow_right (by decide) hi)
theorem sways_is {f : Krdk.Answer} (hf : WF f) {x i : Nat} (hx : x < 2 ^ f.n) (hi : i < f.n) : f.sways i x = (f.at_ x != f.at_ (x ^^^ (2 ^ i))) := by
  unfold Krdk.Answer.sways
  rw [flip_xor x (Nat.lt_of_lt_of_le hx (pow_le32 hf.lt)) i (by have := hf.n5; omega)]
theorem sides_is (f : Krdk.Answer) : ((List.range f.n).map fun i => (swc f i : Int)).sum / 2 = (f.sides : Int) := by
  unfold Krdk.Answer.sides
  have e : ∀ (l : List Nat) (a : Nat), (l.foldl (· + ·) a : Nat) = a + l.sum := by
    intro l
    induction l with
    | nil => intro a; simp
    | cons x l ih => intro a; rw [List.foldl_cons, ih, List.sum_cons]; omega
  have e2 : ∀ l : List Nat, (l.map fun i => (swc f i : Int)).sum = ((l.map fun i => swc f i).sum : Nat) := by
    intro l
    induction l with
    | nil => rfl
    | cons x l ih => rw [List.map_cons, List.sum_cons, ih, List.map_cons, List.sum_cons]; omega
  rw [e2, e]
  show _ = (((0 + ((List.range f.n).map fun i => swc f i).sum) / 2 : Nat) : Int)
  omega
theorem sv_first {n m : Nat} (h : m ≤ 2 ^ n) : sv (Krdk.first n m) = List.replicate m (V.int 1) ++ List.replicate (2 ^ n - m) (V.int 0) := by
  apply List.ext_getElem
  · simp [sv, Krdk.first, Krdk.of, Krdk.words]; omega
  · intro i h1 h2
    have hi : i < 2 ^ n := by simpa [sv, Krdk.first, Krdk.of, Krdk.words] using h1
    rw [List.getElem_append]
    simp only [sv, Krdk.first, Krdk.of, Krdk.words, List.getElem_map, List.getElem_range, List.length_replicate, List.getElem_replicate]
    by_cases c : i < m
    · rw [dif_pos c, decide_eq_true c] <;> rfl
    · rw [dif_neg c, decide_eq_false c] <;> rfl
/-- what rising asks at a word and a bit -/
def rok (f : Krdk.Answer) (x i : Nat) : Bool := x.testBit i || !f.at_ x || f.at_ (Krdk.flip x i)
theorem rok_is {f : Krdk.Answer} (hf : WF f) {x i : Nat} (hx : x < 2 ^ f.n) (hi : i < f.n) : decide (bi (f.at_ (x ||| (2 ^ i))) < bi (f.at_ x)) = !rok f x i := by
  unfold rok
  rw [or_set x (Nat.lt_of_lt_of_le hx (pow_le32 hf.lt)) i (by have := hf.n5; omega)]
  by_cases c : x.testBit i = true
  · rw [if_pos c, c]
    cases f.at_ x <;> rfl
  · rw [if_neg c, Bool.eq_false_iff.mpr c]
    cases f.at_ x <;> cases f.at_ (Krdk.flip x i) <;> rfl
theorem rising_t {f : Krdk.Answer} (h : ∀ x, x < 2 ^ f.n → ∀ i, i < f.n → rok f x i = true) : f.rising = true := by
  unfold Krdk.Answer.rising
  rw [List.all_eq_true]
  intro x hx
  rw [List.all_eq_true]
  intro i hi
  exact h x (List.mem_range.mp hx) i (List.mem_range.mp hi)
theorem rising_f {f : Krdk.Answer} {x i : Nat} (hx : x < 2 ^ f.n) (hi : i < f.n) (h : rok f x i = false) : f.rising = false := by
  cases e : f.rising with
  | false => rfl
  | true =>
    unfold Krdk.Answer.rising at e
    rw [List.all_eq_true] at e
    have e2 := e x (List.mem_range.mpr hx)
    rw [List.all_eq_true] at e2
    have e3 := e2 i (List.mem_range.mpr hi)
    rw [← h, ← e3] <;> rfl
section
variable {P : Program} {w : World} {K : PySem.W.Frag} {mg : Str → Option Value} {base : Heap} {CB CR : Addr}
theorem ok_cb {f : Addr} {fd : FuncData} (F : Fun K "check_bit" "check_bit" sCb f fd) (R : Er K mg "NoSuchBit" CB) (G : Hs P w K mg base CX0 1 "bit_count" (spBc K)) : FnOk P w K mg base (L2.CX P w) 2 f fd ["says", "i"] (spCb K CB) := by
  refine F.okX scCb (fun vs H Q E h => ?_) (fun cdv A outer s H vs Q E hr h => ⟨_, pss_one (ps_if (pt_cmpR op_ge (pv 1) (pe_h G hr (by decide) (pa_cons (pv 0) pa_nil)) (nomark _)) (pss_one (ps_rz rfl R (takes_of rfl rfl rfl rfl))) pss_nil), ?_⟩)
  · obtain ⟨a, f, i, rfl, _⟩ := h
    rfl
  · obtain ⟨a, f, i, rfl, hf, hS, k1, k2⟩ := h
    refine ⟨_, rfl, _, rfl, a, _, f.n, rfl, hS, hf.n5, sv_len hf, _, _, rfl, rfl, _, rfl, ?_⟩
    by_cases c : f.n ≤ i
    · exact cond_t (decide_eq_true (by omega)) (k1 c)
    · exact cond_f (decide_eq_false (by omega)) (k2 (by omega))
theorem ok_cw (B : Bn mg) {f : Addr} {fd : FuncData} (F : Fun K "check_word" "check_word" sCw f fd) (R : Er K mg "NotRight" CR) : FnOk P w K mg base (L2.CX P w) 2 f fd ["says", "x"] (spCw K CR) := by
  refine F.okX scCw (fun vs H Q E h => ?_) (fun cdv A outer s H vs Q E hr h => ⟨_, pss_one (ps_if (pt_cmpR op_ge (pv 1) (pe_callB call_len_seq (by rfl) B.len PySem.boot_len (pa_cons (pv 0) pa_nil)) (nomark _)) (pss_one (ps_rz rfl R (takes_of rfl rfl rfl rfl))) pss_nil), ?_⟩)
  · obtain ⟨a, f, i, rfl, _⟩ := h
    rfl
  · obtain ⟨a, f, i, rfl, hf, hS, k1, k2⟩ := h
    refine ⟨_, rfl, _, rfl, a, _, rfl, .inl hS, _, _, rfl, rfl, _, rfl, ?_⟩
    have hl := sv_len hf
    by_cases c : 2 ^ f.n ≤ i
    · exact cond_t (decide_eq_true (by omega)) (k1 c)
    · exact cond_f (decide_eq_false (by omega)) (k2 (by omega))
theorem ok_sc (B : Bn mg) {f : Addr} {fd : FuncData} (F : Fun K "sway_count" "sway_count" sSc f fd) (G : Hs P w K mg base CX0 1 "turned" spTu) : FnOk P w K mg base CX0 2 f fd ["says", "i"] (spSc K) := by
  refine F.ok scSc (fun vs H Q E h => ?_) (fun cdv A outer s H vs Q E hr h => ⟨_, pss_one (ps_ret (pe_callB call_len_seq (by rfl) B.len PySem.boot_len (pa_cons (pe_lc (own := [("x", 2)]) (g := gName 2)
      (tt := tTest (tOp rNe (tOp (rIxL K) (tVar 0) (tVar 2)) (tOp (rIxL K) (tVar 0) (tCall spTu [] E0 (tCons (tVar 2) (tCons (tVar 1) tNil)))))) (by rfl) scSc.nd (pi_range1 rfl B.range (pa_cons (pe_callB call_len_seq (by rfl) B.len PySem.boot_len (pa_cons (pv 0) pa_nil)) pa_nil))
      (blkOk_by (N := ["says", "i", "x"]) (sc := defScope sSc) (by decide +kernel)) (fun _ _ _ _ _ => pg_name (i := 2) scSc.nd rfl (.inl rfl))
      (fun _ _ _ _ _ => pts_one (pt_cmpR op_ne (pe_ix ix_list (pv 0) (pv 2) (fun _ _ => rfl)) (pe_ix ix_list (pv 0) (pe_h G hr (by decide) (pa_cons (pv 2) (pa_cons (pv 1) pa_nil))) (fun _ _ => rfl)) (nomark _))) (fun _ _ _ _ _ => pv 2)) pa_nil))), ?_⟩)
  · obtain ⟨a, f, i, rfl, _⟩ := h
    rfl
  · obtain ⟨a, f, b, rfl, hf, hS, hb, k⟩ := h
    have hp := pow_le32 hf.lt
    have hn := hf.n5
    refine ⟨_, rfl, a, _, rfl, .inl hS, _, rfl, by omega, ?_, fun D new => ?_⟩
    · rw [sv_len hf]
      omega
    · rw [show (((sv f).length : Nat) : Int).toNat = 2 ^ f.n by rw [sv_len hf]; rfl]
      refine lc_range (lo := 0) (n := 2 ^ f.n) (fun i H' => Gr H D (((List.range i).filter (f.sways b)).map fun (x : Nat) => V.int x) H') (Gr.start new) (fun i H' hi g => ?_) (fun H' g => ?_)
      · refine ⟨rfl, _, rfl, _, rfl, a, _, _, V.int (bi (f.at_ i)), rfl, rfl, g.1.seq hS, ?_, _, rfl, _, rfl, _, rfl, i, b, ?_, by omega, a, _, _, V.int (bi (f.at_ (i ^^^ (2 ^ b)))), rfl, rfl, g.1.seq hS, atI_nat (sv_at hf (xor_lt hi hb)), rfl, _, rfl, ?_⟩
        · rw [zint]
          exact atI_nat (sv_at hf hi)
        · rw [zint]
          rfl
        · rw [bi_ne, ← sways_is hf hi hb]
          cases e : f.sways b i with
          | true => exact cond_t rfl ⟨_, rfl, g.put new (flt_len (by omega)) (by rw [zint]; exact flt_yes e)⟩
          | false =>
            refine cond_f rfl ?_
            show Gr _ _ _ _
            rw [flt_no e]
            exact g
      · refine ⟨D, _, rfl, .inl (SqL.of g.2), ?_⟩
        rw [List.length_map]
        exact k H' g.1
theorem ok_scs (B : Bn mg) {f : Addr} {fd : FuncData} (F : Fun K "sway_counts" "sway_counts" sScs f fd) (G : Hs P w K mg base CX0 2 "sway_count" (spSc K)) (Gb : Hs P w K mg base CX0 1 "bit_count" (spBc K)) : FnOk P w K mg base CX0 3 f fd ["says"] (spScs K) := by
  refine F.ok scScs (fun vs H Q E h => ?_) (fun cdv A outer s H vs Q E hr h => ⟨_, pss_one (ps_ret (pe_lc (own := [("i", 1)]) (g := gName 1) (tt := tYes) (te := tCall (spSc K) [] E0 (tCons (tVar 0) (tCons (tVar 1) tNil))) (by rfl) scScs.nd (pi_range1 rfl B.range (pa_cons (pe_h Gb hr (by decide) (pa_cons (pv 0) pa_nil)) pa_nil))
      (blkOk_by (N := ["says", "i"]) (sc := defScope sScs) (by decide +kernel)) (fun _ _ _ _ _ => pg_name (i := 1) scScs.nd rfl (.inl rfl))
      (fun _ _ _ _ _ => pts_nil) (fun _ _ _ _ _ => pe_h G hr (by decide) (pa_cons (pv 0) (pa_cons (pv 1) pa_nil))))), ?_⟩)
  · obtain ⟨x, i, rfl, _⟩ := h
    rfl
  · obtain ⟨a, f, rfl, hf, hS, k⟩ := h
    have hn := hf.n5
    refine ⟨_, rfl, a, _, f.n, rfl, hS, hn, sv_len hf, _, rfl, by omega, by omega, fun D new => ?_⟩
    rw [Int.toNat_natCast]
    refine lc_rangeY (n := f.n) (fun i H' => Gr H D ((List.range i).map fun s => V.int (swc f s)) H') (Gr.start new) (fun i H' hi g => ?_) (fun H' g => g.end new k)
    refine ⟨rfl, _, rfl, _, rfl, a, f, i, ?_, hf, g.1.seq hS, hi, fun H2 s2 => ?_⟩
    · rw [zint]
      rfl
    · exact (g.to s2).put new (map_len (by omega)) map_more
theorem ok_sd (B : Bn mg) {f : Addr} {fd : FuncData} (F : Fun K "side_count" "side_count" sSd f fd) (G : Hs P w K mg base CX0 3 "sway_counts" (spScs K)) : FnOk P w K mg base CX0 4 f fd ["says"] (spSd K) := by
  refine F.ok scSd (fun vs H Q E h => ?_) (fun cdv A outer s H vs Q E hr h => ⟨_, pss_one (ps_ret (pe_op op_fdiv (pe_callB (cr_sum rfl) (by rfl) B.sum (by decide +kernel) (pa_cons (pe_h G hr (by decide) (pa_cons (pv 0) pa_nil)) pa_nil)) pe_int)), ?_⟩)
  · obtain ⟨x, i, rfl, _⟩ := h
    rfl
  · obtain ⟨a, f, rfl, hf, hS, k⟩ := h
    refine ⟨_, rfl, a, f, rfl, hf, hS, fun H1 p s1 hp0 hp => ⟨p, (List.range f.n).map fun i => (swc f i : Int), rfl, ?_, _, _, rfl, rfl, ⟨by decide, by decide⟩, ?_⟩⟩
    · rw [List.map_map]
      exact SqL.of hp
    · show Q (.int (((List.range f.n).map fun i => (swc f i : Int)).sum / 2)) H1
      rw [sides_is]
      exact k H1 s1
theorem ok_fw (B : Bn mg) {f : Addr} {fd : FuncData} (F : Fun K "first_words" "first_words" sFw f fd) : FnOk P w K mg base CX0 1 f fd ["says"] (spFw K) := by
  refine F.ok scFw (fun vs H Q E h => ?_) (fun cdv A outer s H vs Q E hr h => ⟨_, pss_cons (ps_set (i := 1) scFw.nd rfl (.inl rfl) (pe_callB (cr_sum rfl) (by rfl) B.sum (by decide +kernel) (pa_cons (pv 0) pa_nil)))
    (pss_one (ps_ret (pe_op op_cat (pe_op op_rep (pe_lst (pa_cons pe_int pa_nil)) (pv 1)) (pe_op op_rep (pe_lst (pa_cons pe_int pa_nil)) (pe_op op_sub (pe_callB call_len_seq (by rfl) B.len PySem.boot_len (pa_cons (pv 0) pa_nil)) (pv 1)))))), ?_⟩)
  · obtain ⟨x, i, rfl, _⟩ := h
    rfl
  · obtain ⟨a, f, rfl, hf, hS, k⟩ := h
    have hp := pow_le32 hf.lt
    have hy := yes_le f
    refine ⟨_, rfl, a, f.t.map bi, rfl, by rw [← sv_ints]; exact hS, ?_⟩
    rw [yes_sum hf]
    refine ⟨by show 1 ≤ sizeLine; decide, fun l1 h1 => ⟨_, rfl, l1, _, _, rfl, rfl, upd_same, by omega, by omega, size_small (by simp; omega), fun p1 hp1 => ⟨by show 1 ≤ sizeLine; decide, fun l2 h2 => ?_⟩⟩⟩
    have s1 : Same H (upd H l1 (.lst [.int 1])) := Same.upd h1
    have s2 := s1.trans (Same.upd (o := .lst (List.replicate ((f.yes : Int)).toNat [V.int 1]).flatten) hp1)
    have s3 := s2.trans (Same.upd (o := .lst [.int 0]) h2)
    refine ⟨_, rfl, a, _, rfl, .inl (s3.seq hS), _, rfl, _, _, rfl, rfl, l2, _, _, rfl, rfl, upd_same, ?_, ?_, ?_, fun p2 hp2 => ?_⟩
    · rw [sv_len hf]; omega
    · rw [sv_len hf]; omega
    · rw [sv_len hf]
      exact size_small (by show 1 * (((2 ^ f.n : Nat) : Int) - (f.yes : Int)).toNat ≤ 1000000; omega)
    rw [sv_len hf] at *
    have s4 := Same.upd (o := .lst (List.replicate (((2 ^ f.n : Nat) : Int) - (f.yes : Int)).toNat [V.int 0]).flatten) hp2
    refine ⟨p1, p2, _, _, rfl, rfl, s4 _ _ ((Same.upd h2) _ _ upd_same), upd_same, ?_, fun q hq => ?_⟩
    · rw [List.flatten_replicate_singleton, List.flatten_replicate_singleton, List.length_replicate, List.length_replicate]
      exact size_small (by omega)
    · have e : (List.replicate ((f.yes : Int)).toNat [V.int 1]).flatten ++ (List.replicate (((2 ^ f.n : Nat) : Int) - (f.yes : Int)).toNat [V.int 0]).flatten = sv (Krdk.first f.n f.yes) := by
        rw [List.flatten_replicate_singleton, List.flatten_replicate_singleton, sv_first hy, Int.toNat_natCast]
        congr 2
        omega
      rw [e]
      exact k.to (s3.trans s4) hq
theorem ok_ir (B : Bn mg) {f : Addr} {fd : FuncData} (F : Fun K "is_rising" "is_rising" sIr f fd) (G : Hs P w K mg base CX0 1 "with_bit" spWb) (Gb : Hs P w K mg base CX0 1 "bit_count" (spBc K)) : FnOk P w K mg base CX0 2 f fd ["says"] (spIr K) := by
  refine F.ok scIr (fun vs H Q E h => ?_) (fun cdv A outer s H vs Q E hr h => ⟨_, pss_cons (ps_for PassesOwn.never rfl (pi_range1 rfl B.range (pa_cons (pe_callB call_len_seq (by rfl) B.len PySem.boot_len (pa_cons (pv 0) pa_nil)) pa_nil)) (pg_name (i := 1) scIr.nd rfl (.inl rfl))
      (pss_one (ps_for PassesOwn.never rfl (pi_range1 rfl B.range (pa_cons (pe_h Gb hr (by decide) (pa_cons (pv 0) pa_nil)) pa_nil)) (pg_name (i := 2) scIr.nd rfl (.inl rfl))
        (pss_one (ps_if (pt_cmpR op_gt (pe_ix ix_list (pv 0) (pv 1) (fun _ _ => rfl)) (pe_ix ix_list (pv 0) (pe_h G hr (by decide) (pa_cons (pv 1) (pa_cons (pv 2) pa_nil))) (fun _ _ => rfl)) (nomark _)) (pss_one (ps_ret pe_bl)) pss_nil)))))
    (pss_one (ps_ret pe_bl)), ?_⟩)
  · obtain ⟨x, i, rfl, _⟩ := h
    rfl
  · obtain ⟨a, f, rfl, hf, hS, k⟩ := h
    have hp := pow_le32 hf.lt
    have hn := hf.n5
    refine ⟨_, rfl, a, _, rfl, .inl hS, _, rfl, by omega, ?_, ?_⟩
    · rw [sv_len hf]
      omega
    rw [show (((sv f).length : Nat) : Int).toNat = 2 ^ f.n by rw [sv_len hf]; rfl]
    refine for_range (lo := 0) (n := 2 ^ f.n) (fun x σ H' => (∃ v1 v2 : Option V, σ = [some (.ref a), v1, v2]) ∧ H' = H ∧ ∀ y, y < x → ∀ i, i < f.n → rok f y i = true) ⟨⟨none, none, rfl⟩, rfl, fun y hy => absurd hy (Nat.not_lt_zero y)⟩ (fun x σ H' hx z => ?_) (fun σ H' z => ?_)
    · obtain ⟨⟨v1, v2, rfl⟩, rfl, hy⟩ := z
      refine ⟨_, rfl, a, _, f.n, rfl, hS, hn, sv_len hf, _, rfl, by omega, by omega, ?_⟩
      rw [Int.toNat_natCast]
      refine for_range (lo := 0) (n := f.n) (fun i σ H2 => (∃ v2 : Option V, σ = [some (.ref a), some (.int x), v2]) ∧ H2 = H' ∧ ∀ j, j < i → rok f x j = true) ⟨⟨v2, by rw [zint]; rfl⟩, rfl, fun y hy => absurd hy (Nat.not_lt_zero y)⟩ (fun i σ H2 hi z => ?_) (fun σ H2 z => ?_)
      · obtain ⟨⟨v3, rfl⟩, rfl, hj⟩ := z
        refine ⟨_, rfl, _, rfl, a, _, _, V.int (bi (f.at_ x)), rfl, rfl, hS, atI_nat (sv_at hf hx), _, rfl, _, rfl, _, rfl, x, i, ?_, by omega, a, _, _, V.int (bi (f.at_ (x ||| (2 ^ i)))), rfl, rfl, hS, atI_nat (sv_at hf (or_lt hx hi)), _, _, rfl, rfl, _, rfl, ?_⟩
        · rw [zint]
          rfl
        · rw [rok_is hf hx hi]
          cases e : rok f x i with
          | false =>
            refine cond_t rfl ?_
            show Q (.bl false) H2
            rw [← rising_f hx hi e]
            exact k
          | true =>
            refine cond_f rfl ⟨⟨_, rfl⟩, rfl, fun j hj2 => ?_⟩
            by_cases c : j < i
            · exact hj j c
            · have : j = i := by omega
              rw [this]
              exact e
      · obtain ⟨⟨v3, rfl⟩, rfl, hj⟩ := z
        refine ⟨⟨_, _, rfl⟩, rfl, fun y hy2 i hi => ?_⟩
        by_cases c : y < x
        · exact hy y c i hi
        · have : y = x := by omega
          rw [this]
          exact hj i hi
    · obtain ⟨⟨v1, v2, rfl⟩, rfl, hy⟩ := z
      show Q (.bl true) H'
      rw [← rising_t hy]
      exact k
end
end Bw
namespace Bw
open PySem PySem.Spec PyProof.Rows L2
def erC (CB CR : Addr) (e : Int) : Addr := if e = -2 then CB else CR
/-- what the numbers of a call are -/
structure Pre (k : Nat) (g : List Int) : Prop where
  need : k ≤ g.length
  pos : ∀ z ∈ g, 0 ≤ z
  most : g.length ≤ 300
def spA (K : PySem.W.Frag) (CB CR : Addr) (k c : Nat) : Sp := fun vs H Q E => ∃ (a g : Addr) (f : Krdk.Answer) (given : List Int), vs = [.ref a, .ref g] ∧ WF f ∧ SqL K H a (sv f) ∧ SqL K H g (given.map V.int) ∧ Pre k given ∧
  (∀ l, ak f c given = .ok l → NL H (l.map V.int) Q) ∧ (∀ e, ak f c given = .error e → ∀ H', Same H H' → E (.ref (erC CB CR e)) none H')
theorem Pre.hd0 {k : Nat} {g : List Int} (h : Pre (k + 1) g) : ∃ r, g = (hd g : Int) :: r := by
  cases g with
  | nil => exact absurd h.need (by simp)
  | cons z r =>
    have := h.pos z (by simp)
    exact ⟨r, by simp [hd]; omega⟩
theorem at0 {k : Nat} {g : List Int} (h : Pre (k + 1) g) : atI (g.map V.int) 0 = some (.int (hd g)) := by
  obtain ⟨r, e⟩ := h.hd0
  have h0 : (g.map V.int)[0]? = some (.int (hd g)) := by
    rw [e]
    have e2 : hd ((hd g : Int) :: r) = hd g := Int.toNat_natCast (hd g)
    rw [e2] <;> rfl
  exact atI_nat (j := 0) h0
theorem cat_end {H Hx : Hp} {l p : Addr} {xs zs : List V} {Q : VK} (s : Same H Hx) (h1 : Hx l = some (.lst xs)) (h2 : Hx p = some (.lst zs)) (hz : xs.length + zs.length ≤ sizeLine) (k : NL H (xs ++ zs) Q) : rCat (.ref l) (.ref p) Hx Q :=
  ⟨l, p, xs, zs, rfl, rfl, h1, h2, hz, fun _ hq => k.to s hq⟩
theorem frV_is (u : Int) (l : Nat) : frV u l = (frI u l).map V.int := rfl
theorem two_small {a : V} {u l : Int} : [a].length + (frV u l).length ≤ sizeLine := by show 1 + 2 ≤ sizeLine; decide
theorem N_bd {f : Krdk.Answer} (hf : WF f) : 0 < N f ∧ N f ≤ 32 := ⟨Nat.two_pow_pos _, pow_le32 hf.lt⟩
abbrev sA (i : Nat) : Stmt := top (21 + i)
theorem scAsk : FnScope ["says", "given", "x"] ["says", "given"] (defScope (top 29)) := ⟨rfl, rfl, rfl, by decide +kernel, rfl, by decide +kernel, by decide +kernel⟩
theorem scMean : FnScope ["says", "given"] ["says", "given"] (defScope (top 30)) := ⟨rfl, rfl, rfl, by decide +kernel, rfl, by decide +kernel, by decide +kernel⟩
theorem scSway : FnScope ["says", "given", "i"] ["says", "given"] (defScope (top 31)) := ⟨rfl, rfl, rfl, by decide +kernel, rfl, by decide +kernel, by decide +kernel⟩
theorem scAll : FnScope ["says", "given"] ["says", "given"] (defScope (top 32)) := ⟨rfl, rfl, rfl, by decide +kernel, rfl, by decide +kernel, by decide +kernel⟩
theorem scEven : FnScope ["says", "given", "word_count", "yeses"] ["says", "given"] (defScope (top 33)) := ⟨rfl, rfl, rfl, by decide +kernel, rfl, by decide +kernel, by decide +kernel⟩
theorem scPart : FnScope ["says", "given", "s"] ["says", "given"] (defScope (top 34)) := ⟨rfl, rfl, rfl, by decide +kernel, rfl, by decide +kernel, by decide +kernel⟩
theorem scParts : FnScope ["says", "given", "sums", "numbers", "s", "total"] ["says", "given"] (defScope (top 35)) := ⟨rfl, rfl, rfl, by decide +kernel, rfl, by decide +kernel, by decide +kernel⟩
theorem scLevels : FnScope ["says", "given", "word_count", "sums", "numbers", "total"] ["says", "given"] (defScope (top 36)) := ⟨rfl, rfl, rfl, by decide +kernel, rfl, by decide +kernel, by decide +kernel⟩
theorem scSides : FnScope ["says", "given"] ["says", "given"] (defScope (top 37)) := ⟨rfl, rfl, rfl, by decide +kernel, rfl, by decide +kernel, by decide +kernel⟩
theorem scFewest : FnScope ["says", "given"] ["says", "given"] (defScope (top 38)) := ⟨rfl, rfl, rfl, by decide +kernel, rfl, by decide +kernel, by decide +kernel⟩
theorem scRising : FnScope ["says", "given"] ["says", "given"] (defScope (top 39)) := ⟨rfl, rfl, rfl, by decide +kernel, rfl, by decide +kernel, by decide +kernel⟩
theorem scIdle : FnScope ["says", "given", "never", "i", "count"] ["says", "given"] (defScope (top 40)) := ⟨rfl, rfl, rfl, by decide +kernel, rfl, by decide +kernel, by decide +kernel⟩
theorem scMost : FnScope ["says", "given", "counts", "largest"] ["says", "given"] (defScope (top 41)) := ⟨rfl, rfl, rfl, by decide +kernel, rfl, by decide +kernel, by decide +kernel⟩
theorem scState : FnScope ["says", "given"] ["says", "given"] (defScope (top 42)) := ⟨rfl, rfl, rfl, by decide +kernel, rfl, by decide +kernel, by decide +kernel⟩
section
variable {P : Program} {w : World} {K : PySem.W.Frag} {mg : Str → Option Value} {base : Heap} {CB CR : Addr}
theorem ok_ask (B : Bn mg) {f : Addr} {fd : FuncData} (F : Fun K "ask" "ask" (top 29) f fd) (G : Hs P w K mg base (L2.CX P w) 2 "check_word" (spCw K CR)) : FnOk P w K mg base (L2.CX P w) 3 f fd ["says", "given"] (spA K CB CR 1 8) := by
  refine F.okX scAsk (fun vs H Q E h => ?_) (fun cdv A outer s H vs Q E hr h => ⟨_, pss_cons (ps_set (i := 2) scAsk.nd rfl (.inl rfl) (pe_ix ix_list (pv 1) pe_int (fun _ _ => rfl)))
    (pss_cons (ps_expr (pe_hx (E := E) G hr (by decide) (passes_call (takes_of rfl rfl rfl rfl) (fun _ _ _ _ h => h)) (pa_cons (pv 0) (pa_cons (pv 2) pa_nil))))
    (pss_one (ps_ret (pe_lst (pa_cons (pe_ix ix_list (pv 0) (pv 2) (fun _ _ => rfl)) pa_nil))))), ?_⟩)
  · obtain ⟨a, g, f, given, rfl, _⟩ := h
    rfl
  · obtain ⟨a, g, f, given, rfl, hf, hS, hG, hP, kO, kE⟩ := h
    refine ⟨_, rfl, g, _, _, _, rfl, rfl, hG, at0 hP, _, rfl, _, rfl, a, f, hd given, rfl, hf, hS, fun c => kE (-22) (if_pos c) H (Same.refl H), fun c => ?_⟩
    refine ⟨_, rfl, _, rfl, a, _, _, V.int (bi (f.at_ (hd given))), rfl, rfl, hS, atI_nat (sv_at hf c), by show 1 ≤ sizeLine; decide, fun p hp => ?_⟩
    exact (kO _ (if_neg (by omega))).to (Same.refl H) hp
theorem ok_mean (B : Bn mg) {f : Addr} {fd : FuncData} (F : Fun K "mean" "mean" (top 30) f fd) (G : Hs P w K mg base CX0 2 "lowest_terms" spLow) : FnOk P w K mg base (L2.CX P w) 3 f fd ["says", "given"] (spA K CB CR 0 9) := by
  refine F.okX scMean (fun vs H Q E h => ?_) (fun cdv A outer s H vs Q E hr h => ⟨_, pss_one (ps_ret (pe_op op_cat (pe_lst (pa_cons pe_int pa_nil)) (pe_h G hr (by decide) (pa_cons (pe_callB (cr_sum rfl) (by rfl) B.sum (by decide +kernel) (pa_cons (pv 0) pa_nil)) (pa_cons (pe_callB call_len_seq (by rfl) B.len PySem.boot_len (pa_cons (pv 0) pa_nil)) pa_nil))))), ?_⟩)
  · obtain ⟨a, g, f, given, rfl, _⟩ := h
    rfl
  · obtain ⟨a, g, f, given, rfl, hf, hS, hG, hP, kO, kE⟩ := h
    have hN := N_bd hf
    refine ⟨by show 1 ≤ sizeLine; decide, fun l hl => ?_⟩
    have s1 : Same H (upd H l (.lst [.int 0])) := Same.upd hl
    have hS1 := s1.seq hS
    refine ⟨_, rfl, a, f.t.map bi, rfl, by rw [← sv_ints]; exact hS1, _, rfl, a, _, rfl, .inl hS1, ?_⟩
    rw [yes_sum hf, sv_len hf]
    refine ⟨(f.yes : Int), ((N f : Nat) : Int), rfl, by omega, by omega, fun p hp => ?_⟩
    exact cat_end (s1.trans (Same.upd hp)) (Same.upd hp _ _ upd_same) upd_same two_small (kO _ rfl)
theorem ok_sway (B : Bn mg) {f : Addr} {fd : FuncData} (F : Fun K "sway" "sway" (top 31) f fd) (G : Hs P w K mg base CX0 2 "lowest_terms" spLow) (Gb : Hs P w K mg base (L2.CX P w) 2 "check_bit" (spCb K CB)) (Gs : Hs P w K mg base CX0 2 "sway_count" (spSc K)) : FnOk P w K mg base (L2.CX P w) 3 f fd ["says", "given"] (spA K CB CR 1 10) := by
  refine F.okX scSway (fun vs H Q E h => ?_) (fun cdv A outer s H vs Q E hr h => ⟨_, pss_cons (ps_set (i := 2) scSway.nd rfl (.inl rfl) (pe_ix ix_list (pv 1) pe_int (fun _ _ => rfl)))
    (pss_cons (ps_expr (pe_hx (E := E) Gb hr (by decide) (passes_call (takes_of rfl rfl rfl rfl) (fun _ _ _ _ h => h)) (pa_cons (pv 0) (pa_cons (pv 2) pa_nil))))
    (pss_one (ps_ret (pe_op op_cat (pe_lst (pa_cons pe_int pa_nil)) (pe_h G hr (by decide) (pa_cons (pe_h Gs hr (by decide) (pa_cons (pv 0) (pa_cons (pv 2) pa_nil))) (pa_cons (pe_callB call_len_seq (by rfl) B.len PySem.boot_len (pa_cons (pv 0) pa_nil)) pa_nil))))))), ?_⟩)
  · obtain ⟨a, g, f, given, rfl, _⟩ := h
    rfl
  · obtain ⟨a, g, f, given, rfl, hf, hS, hG, hP, kO, kE⟩ := h
    have hN := N_bd hf
    refine ⟨_, rfl, g, _, _, _, rfl, rfl, hG, at0 hP, _, rfl, _, rfl, a, f, hd given, rfl, hf, hS, fun c => kE (-2) (if_pos c) H (Same.refl H), fun c => ?_⟩
    refine ⟨by show 1 ≤ sizeLine; decide, fun l hl => ?_⟩
    have s1 : Same H (upd H l (.lst [.int 0])) := Same.upd hl
    refine ⟨_, rfl, _, rfl, a, f, hd given, rfl, hf, s1.seq hS, c, fun H2 s2 => ⟨_, rfl, a, _, rfl, .inl (s2.seq (s1.seq hS)), ?_⟩⟩
    rw [sv_len hf]
    refine ⟨(swc f (hd given) : Int), ((N f : Nat) : Int), rfl, by omega, by omega, fun p hp => ?_⟩
    exact cat_end ((s1.trans s2).trans (Same.upd hp)) (Same.upd hp _ _ (s2 _ _ upd_same)) upd_same two_small (kO _ (if_neg (by omega)))
theorem ok_all (B : Bn mg) {f : Addr} {fd : FuncData} (F : Fun K "all_sways" "all_sways" (top 32) f fd) (G : Hs P w K mg base CX0 2 "lowest_terms" spLow) (Gs : Hs P w K mg base CX0 3 "sway_counts" (spScs K)) : FnOk P w K mg base (L2.CX P w) 4 f fd ["says", "given"] (spA K CB CR 0 11) := by
  refine F.okX scAll (fun vs H Q E h => ?_) (fun cdv A outer s H vs Q E hr h => ⟨_, pss_one (ps_ret (pe_op op_cat (pe_lst (pa_cons pe_int pa_nil)) (pe_h G hr (by decide) (pa_cons (pe_callB (cr_sum rfl) (by rfl) B.sum (by decide +kernel) (pa_cons (pe_h Gs hr (by decide) (pa_cons (pv 0) pa_nil)) pa_nil)) (pa_cons (pe_callB call_len_seq (by rfl) B.len PySem.boot_len (pa_cons (pv 0) pa_nil)) pa_nil))))), ?_⟩)
  · obtain ⟨a, g, f, given, rfl, _⟩ := h
    rfl
  · obtain ⟨a, g, f, given, rfl, hf, hS, hG, hP, kO, kE⟩ := h
    have hN := N_bd hf
    refine ⟨by show 1 ≤ sizeLine; decide, fun l hl => ?_⟩
    have s1 : Same H (upd H l (.lst [.int 0])) := Same.upd hl
    refine ⟨_, rfl, a, f, rfl, hf, s1.seq hS, fun H2 q s2 hq0 hq => ⟨q, (List.range f.n).map fun i => (swc f i : Int), rfl, ?_, _, rfl, a, _, rfl, .inl (s2.seq (s1.seq hS)), ?_⟩⟩
    · rw [List.map_map]
      exact SqL.of hq
    rw [sv_len hf]
    refine ⟨_, ((N f : Nat) : Int), rfl, by omega, by omega, fun p hp => ?_⟩
    exact cat_end ((s1.trans s2).trans (Same.upd hp)) (Same.upd hp _ _ (s2 _ _ upd_same)) upd_same two_small (kO _ rfl)
theorem ok_even (B : Bn mg) {f : Addr} {fd : FuncData} (F : Fun K "even" "even" (top 33) f fd) (G : Hs P w K mg base CX0 2 "lowest_terms" spLow) : FnOk P w K mg base (L2.CX P w) 3 f fd ["says", "given"] (spA K CB CR 0 12) := by
  refine F.okX scEven (fun vs H Q E h => ?_) (fun cdv A outer s H vs Q E hr h => ⟨_, pss_cons (ps_set (i := 2) scEven.nd rfl (.inl rfl) (pe_callB call_len_seq (by rfl) B.len PySem.boot_len (pa_cons (pv 0) pa_nil)))
    (pss_cons (ps_set (i := 3) scEven.nd rfl (.inl rfl) (pe_callB (cr_sum rfl) (by rfl) B.sum (by decide +kernel) (pa_cons (pv 0) pa_nil)))
    (pss_one (ps_ret (pe_op op_cat (pe_lst (pa_cons pe_int pa_nil)) (pe_h G hr (by decide) (pa_cons (pe_op op_mul (pe_op op_mul pe_int (pv 3)) (pe_op op_sub (pv 2) (pv 3))) (pa_cons (pe_op op_mul (pv 2) (pv 2)) pa_nil))))))), ?_⟩)
  · obtain ⟨a, g, f, given, rfl, _⟩ := h
    rfl
  · obtain ⟨a, g, f, given, rfl, hf, hS, hG, hP, kO, kE⟩ := h
    have hN := N_bd hf
    have hy : f.yes ≤ N f := yes_le f
    refine ⟨_, rfl, a, _, rfl, .inl hS, _, rfl, a, f.t.map bi, rfl, by rw [← sv_ints]; exact hS, by show 1 ≤ sizeLine; decide, fun l hl => ?_⟩
    rw [yes_sum hf, sv_len hf]
    have s1 : Same H (upd H l (.lst [.int 0])) := Same.upd hl
    refine ⟨_, rfl, 4, (f.yes : Int), rfl, rfl, .inl ⟨by omega, by omega⟩, _, rfl, _, rfl, ((N f : Nat) : Int), (f.yes : Int), rfl, rfl, 4 * (f.yes : Int), ((N f : Nat) : Int) - (f.yes : Int), rfl, rfl, .inl ⟨by omega, by omega⟩, _, rfl, _, rfl, ((N f : Nat) : Int), ((N f : Nat) : Int), rfl, rfl, .inl ⟨by omega, by omega⟩, ?_⟩
    have e2 : ((N f : Nat) : Int) * ((N f : Nat) : Int) = ((N f * N f : Nat) : Int) := (Int.natCast_mul _ _).symm
    have h2 : N f * N f ≤ 32 * 32 := Nat.mul_le_mul hN.2 hN.2
    have h3 : 0 < N f * N f := Nat.mul_pos hN.1 hN.1
    refine ⟨4 * (f.yes : Int) * (((N f : Nat) : Int) - (f.yes : Int)), ((N f * N f : Nat) : Int), by rw [← e2]; rfl, by omega, by omega, fun p hp => ?_⟩
    exact cat_end (s1.trans (Same.upd hp)) (Same.upd hp _ _ upd_same) upd_same two_small (kO _ rfl)
theorem ok_part (B : Bn mg) {f : Addr} {fd : FuncData} (F : Fun K "part" "part" (top 34) f fd) (G : Hs P w K mg base CX0 2 "lowest_terms" spLow) (Gw : Hs P w K mg base (L2.CX P w) 2 "check_word" (spCw K CR)) (Gs : Hs P w K mg base CX0 3 "part_sum" (spPs K)) : FnOk P w K mg base (L2.CX P w) 4 f fd ["says", "given"] (spA K CB CR 1 13) := by
  refine F.okX scPart (fun vs H Q E h => ?_) (fun cdv A outer s H vs Q E hr h => ⟨_, pss_cons (ps_set (i := 2) scPart.nd rfl (.inl rfl) (pe_ix ix_list (pv 1) pe_int (fun _ _ => rfl)))
    (pss_cons (ps_expr (pe_hx (E := E) Gw hr (by decide) (passes_call (takes_of rfl rfl rfl rfl) (fun _ _ _ _ h => h)) (pa_cons (pv 0) (pa_cons (pv 2) pa_nil))))
    (pss_one (ps_ret (pe_op op_cat (pe_lst (pa_cons pe_int pa_nil)) (pe_h G hr (by decide) (pa_cons (pe_h Gs hr (by decide) (pa_cons (pv 0) (pa_cons (pv 2) pa_nil))) (pa_cons (pe_callB call_len_seq (by rfl) B.len PySem.boot_len (pa_cons (pv 0) pa_nil)) pa_nil))))))), ?_⟩)
  · obtain ⟨a, g, f, given, rfl, _⟩ := h
    rfl
  · obtain ⟨a, g, f, given, rfl, hf, hS, hG, hP, kO, kE⟩ := h
    have hN := N_bd hf
    refine ⟨_, rfl, g, _, _, _, rfl, rfl, hG, at0 hP, _, rfl, _, rfl, a, f, hd given, rfl, hf, hS, fun c => kE (-22) (if_pos c) H (Same.refl H), fun c => ?_⟩
    refine ⟨by show 1 ≤ sizeLine; decide, fun l hl => ?_⟩
    have s1 : Same H (upd H l (.lst [.int 0])) := Same.upd hl
    refine ⟨_, rfl, _, rfl, a, f, hd given, rfl, hf, s1.seq hS, c, fun H2 s2 => ⟨_, rfl, a, _, rfl, .inl (s2.seq (s1.seq hS)), ?_⟩⟩
    rw [sv_len hf]
    refine ⟨psum f (hd given), ((N f : Nat) : Int), rfl, by omega, by omega, fun p hp => ?_⟩
    exact cat_end ((s1.trans s2).trans (Same.upd hp)) (Same.upd hp _ _ (s2 _ _ upd_same)) upd_same two_small (kO _ (if_neg (by omega)))
theorem ok_sides (B : Bn mg) {f : Addr} {fd : FuncData} (F : Fun K "sides" "sides" (top 37) f fd) (G : Hs P w K mg base CX0 4 "side_count" (spSd K)) : FnOk P w K mg base (L2.CX P w) 5 f fd ["says", "given"] (spA K CB CR 0 16) := by
  refine F.okX scSides (fun vs H Q E h => ?_) (fun cdv A outer s H vs Q E hr h => ⟨_, pss_one (ps_ret (pe_lst (pa_cons (pe_h G hr (by decide) (pa_cons (pv 0) pa_nil)) pa_nil))), ?_⟩)
  · obtain ⟨a, g, f, given, rfl, _⟩ := h
    rfl
  · obtain ⟨a, g, f, given, rfl, hf, hS, hG, hP, kO, kE⟩ := h
    exact ⟨_, rfl, a, f, rfl, hf, hS, fun H2 s2 => ⟨by show 1 ≤ sizeLine; decide, fun p hp => (kO _ rfl).to s2 hp⟩⟩
theorem ok_fewest (B : Bn mg) {f : Addr} {fd : FuncData} (F : Fun K "fewest" "fewest" (top 38) f fd) (G : Hs P w K mg base CX0 4 "side_count" (spSd K)) (Gw : Hs P w K mg base CX0 1 "first_words" (spFw K)) : FnOk P w K mg base (L2.CX P w) 5 f fd ["says", "given"] (spA K CB CR 0 17) := by
  refine F.okX scFewest (fun vs H Q E h => ?_) (fun cdv A outer s H vs Q E hr h => ⟨_, pss_one (ps_ret (pe_lst (pa_cons (pe_h G hr (by decide) (pa_cons (pe_h Gw hr (by decide) (pa_cons (pv 0) pa_nil)) pa_nil)) pa_nil))), ?_⟩)
  · obtain ⟨a, g, f, given, rfl, _⟩ := h
    rfl
  · obtain ⟨a, g, f, given, rfl, hf, hS, hG, hP, kO, kE⟩ := h
    exact ⟨_, rfl, a, f, rfl, hf, hS, fun H2 q s2 hq0 hq => ⟨q, _, rfl, WF.mk_of hf.n1 hf.n5, SqL.of hq, fun H3 s3 => ⟨by show 1 ≤ sizeLine; decide, fun p hp => (kO _ rfl).to (s2.trans s3) hp⟩⟩⟩
theorem ok_rising (B : Bn mg) {f : Addr} {fd : FuncData} (F : Fun K "rising" "rising" (top 39) f fd) (G : Hs P w K mg base CX0 2 "is_rising" (spIr K)) : FnOk P w K mg base (L2.CX P w) 3 f fd ["says", "given"] (spA K CB CR 0 18) := by
  refine F.okX scRising (fun vs H Q E h => ?_) (fun cdv A outer s H vs Q E hr h => ⟨_, pss_one (ps_ret (pe_lst (pa_cons (pe_ifExp (pt_val (pe_h G hr (by decide) (pa_cons (pv 0) pa_nil))) pe_int pe_int) pa_nil))), ?_⟩)
  · obtain ⟨a, g, f, given, rfl, _⟩ := h
    rfl
  · obtain ⟨a, g, f, given, rfl, hf, hS, hG, hP, kO, kE⟩ := h
    refine ⟨_, rfl, a, f, rfl, hf, hS, _, rfl, ?_⟩
    have k := kO _ rfl
    cases e : f.rising with
    | true =>
      rw [e] at k
      exact cond_t rfl ⟨by show 1 ≤ sizeLine; decide, fun p hp => k.to (Same.refl H) hp⟩
    | false =>
      rw [e] at k
      exact cond_f rfl ⟨by show 1 ≤ sizeLine; decide, fun p hp => k.to (Same.refl H) hp⟩
theorem ok_state (B : Bn mg) {f : Addr} {fd : FuncData} (F : Fun K "state" "state" (top 42) f fd) (G : Hs P w K mg base CX0 1 "words_of_yes" (spWy K)) (Gb : Hs P w K mg base CX0 1 "bit_count" (spBc K)) : FnOk P w K mg base (L2.CX P w) 3 f fd ["says", "given"] (spA K CB CR 0 21) := by
  refine F.okX scState (fun vs H Q E h => ?_) (fun cdv A outer s H vs Q E hr h => ⟨_, pss_one (ps_ret (pe_op op_cat (pe_lst (pa_cons (pe_h Gb hr (by decide) (pa_cons (pv 0) pa_nil)) pa_nil)) (pe_h G hr (by decide) (pa_cons (pv 0) pa_nil)))), ?_⟩)
  · obtain ⟨a, g, f, given, rfl, _⟩ := h
    rfl
  · obtain ⟨a, g, f, given, rfl, hf, hS, hG, hP, kO, kE⟩ := h
    refine ⟨_, rfl, a, _, f.n, rfl, hS, hf.n5, sv_len hf, by show 1 ≤ sizeLine; decide, fun l hl => ?_⟩
    have s1 : Same H (upd H l (.lst [.int f.n])) := Same.upd hl
    refine ⟨_, rfl, a, f, rfl, hf, s1.seq hS, fun H2 q s2 hq0 hq => ?_⟩
    have hp := pow_le32 hf.lt
    refine cat_end (s1.trans s2) (s2 _ _ upd_same) hq (size_small ?_) ?_
    · have := List.length_filter_le f.at_ (Krdk.words f.n)
      simp [Krdk.words] at this ⊢
      omega
    · have k := kO _ rfl
      rw [List.map_cons, List.map_map] at k
      exact k
end
end Bw
namespace Bw
open PySem PySem.Spec PyProof.Rows L2
theorem bst_spec (f : Krdk.Answer) : ∀ m : Nat, 1 ≤ m → let b := (List.range m).foldl (fun (b : Nat) i => if swc f b < swc f i then i else b) 0
    b < m ∧ (∀ i, i < m → swc f i ≤ swc f b) ∧ ∀ i, i < b → swc f i < swc f b := by
  intro m hm
  induction m with
  | zero => omega
  | succ m ih =>
    rw [List.range_succ, List.foldl_append]
    by_cases h0 : m = 0
    · subst h0
      refine ⟨?_, fun i hi => ?_, fun i hi => ?_⟩
      · show (if swc f 0 < swc f 0 then 0 else 0) < 1
        rw [if_neg (Nat.lt_irrefl _)]
        omega
      · have : i = 0 := by omega
        subst this
        show swc f 0 ≤ swc f (if swc f 0 < swc f 0 then 0 else 0)
        rw [if_neg (Nat.lt_irrefl _)]
        exact Nat.le_refl _
      · exfalso
        have hi : i < (if swc f 0 < swc f 0 then 0 else 0) := hi
        rw [if_neg (Nat.lt_irrefl _)] at hi
        omega
    · obtain ⟨h1, h2, h3⟩ := ih (by omega)
      generalize (List.range m).foldl (fun (b : Nat) i => if swc f b < swc f i then i else b) 0 = b at h1 h2 h3
      show (if swc f b < swc f m then m else b) < m + 1 ∧ (∀ i, i < m + 1 → swc f i ≤ swc f (if swc f b < swc f m then m else b)) ∧ ∀ i, i < (if swc f b < swc f m then m else b) → swc f i < swc f (if swc f b < swc f m then m else b)
      by_cases c : swc f b < swc f m
      · rw [if_pos c]
        refine ⟨by omega, fun i hi => ?_, fun i hi => ?_⟩
        · by_cases e : i = m
          · rw [e]
            exact Nat.le_refl _
          · have := h2 i (by omega)
            omega
        · have := h2 i hi
          omega
      · rw [if_neg c]
        refine ⟨by omega, fun i hi => ?_, h3⟩
        by_cases e : i = m
        · rw [e]
          omega
        · exact h2 i (by omega)
theorem bst_is {f : Krdk.Answer} (hf : WF f) : bst f < f.n ∧ (∀ i, i < f.n → swc f i ≤ swc f (bst f)) ∧ ∀ i, i < bst f → swc f i < swc f (bst f) := bst_spec f f.n hf.n1
/-! a comprehension over enumerate -/
theorem lc_en {K : PySem.W.Frag} {a : Addr} {xs : List V} {g : TG} {tt : TT} {te : TE} {vs : List Nat} {σ : L2.St} {H1 : Hp} {D : Addr} {Qd : Hp → Prop} (Pv : Nat → Hp → Prop) (h0 : Pv 0 (upd H1 D (.lst []))) (hl : ∀ i H, Pv i H → SqL K H a xs)
    (hs : ∀ i x T H, xs[i]? = some x → H T = none → Pv i H → g (.ref T) (wipe σ vs) (upd H T (.tup [.int i, x])) fun σ2 H2 => wipe σ2 vs = wipe σ vs ∧ tt σ2 H2 fun b H3 =>
      if b = true then te σ2 H3 fun y H4 => ∃ acc, H4 D = some (.lst acc) ∧ acc.length < sizeLine ∧ Pv (i + 1) (upd H4 D (.lst (acc ++ [y]))) else Pv (i + 1) H3) (hd : ∀ H, Pv xs.length H → Qd H) :
    ∃ W : Nat → Nat → Hp → Prop, (∃ m, W 0 m (upd H1 D (.lst []))) ∧ ∀ i m H, W i m H →
      ((Ite K a).stop i H ∧ Qd H) ∨ ((Ite K a).go i H ∧ ∃ Nx : Hp → Prop, (∀ H', Nx H' → ∃ m', m' < m ∧ W (i + 1) m' H') ∧ ∀ x H', (Ite K a).yld i H x H' → g x (wipe σ vs) H' fun σ2 H2 => wipe σ2 vs = wipe σ vs ∧ tt σ2 H2 fun b H3 =>
        if b = true then te σ2 H3 fun y H4 => ∃ acc, H4 D = some (.lst acc) ∧ acc.length < sizeLine ∧ Nx (upd H4 D (.lst (acc ++ [y]))) else Nx H3) := by
  refine ⟨fun i m H => m + i = xs.length ∧ Pv i H, ⟨xs.length, rfl, h0⟩, fun i m H w => ?_⟩
  obtain ⟨hm, p⟩ := w
  have q := hl i H p
  cases m with
  | zero =>
    have e : i = xs.length := by omega
    subst e
    exact .inl ⟨⟨xs, q, Nat.le_refl _⟩, hd H p⟩
  | succ m =>
    have hlt : i < xs.length := by omega
    refine .inr ⟨⟨xs, xs[i], q, List.getElem?_eq_getElem hlt⟩, Pv (i + 1), fun H' p' => ⟨m, Nat.lt_succ_self m, by omega, p'⟩, fun v H' y => ?_⟩
    obtain ⟨T, x, e1, e2, e3, e4⟩ := y
    subst e1 e3
    exact hs i x T H (e4 xs q) e2 p
theorem rng_at {α : Type} {v : Nat → α} {n i : Nat} {x : α} (h : ((List.range n).map v)[i]? = some x) : i < n ∧ x = v i := by
  have hlt : i < n := by
    have h2 := (List.getElem?_eq_some_iff.mp h).1
    simpa using h2
  rw [List.getElem?_map, List.getElem?_range hlt] at h
  exact ⟨hlt, (Option.some.inj h).symm⟩
theorem rng_put {α : Type} {v : Nat → α} {n i : Nat} (h : i < n) : ((List.range n).map v)[i]? = some (v i) := by
  rw [List.getElem?_map, List.getElem?_range h] <;> rfl
theorem nz_dec (z : Int) : (!decide (V.int z = V.int 0)) = (z != 0) := by
  by_cases h : z = 0
  · subst h
    rfl
  · rw [bne_iff_ne.mpr h, decide_eq_false fun q => h (V.int.inj q)] <;> rfl
theorem z_dec (n : Nat) : decide (V.int (n : Int) = V.int 0) = (n == 0) := by
  by_cases h : n = 0
  · subst h
    rfl
  · rw [beq_eq_false_iff_ne.mpr h]
    exact decide_eq_false fun q => h (by have := V.int.inj q; omega)
section
variable {P : Program} {w : World} {K : PySem.W.Frag} {mg : Str → Option Value} {base : Heap} {CB CR : Addr}
theorem ok_most (B : Bn mg) {f : Addr} {fd : FuncData} (F : Fun K "most" "most" (top 41) f fd) (G : Hs P w K mg base CX0 2 "lowest_terms" spLow) (Gs : Hs P w K mg base CX0 3 "sway_counts" (spScs K)) : FnOk P w K mg base (L2.CX P w) 4 f fd ["says", "given"] (spA K CB CR 0 20) := by
  refine F.okX scMost (fun vs H Q E h => ?_) (fun cdv A outer s H vs Q E hr h => ⟨_, pss_cons (ps_set (i := 2) scMost.nd rfl (.inl rfl) (pe_h Gs hr (by decide) (pa_cons (pv 0) pa_nil)))
    (pss_cons (ps_set (i := 3) scMost.nd rfl (.inl rfl) (pe_callB (cr_max rfl) (by rfl) B.max (by decide +kernel) (pa_cons (pv 2) pa_nil)))
    (pss_one (ps_ret (pe_op op_cat (pe_lst (pa_cons (pe_bm PySem.F.plainAttrs_list PySem.F.slot_list_index PySem.F.type_list_index mt_index (pv 2) (pa_cons (pv 3) pa_nil)) pa_nil)) (pe_h G hr (by decide) (pa_cons (pv 3) (pa_cons (pe_callB call_len_seq (by rfl) B.len PySem.boot_len (pa_cons (pv 0) pa_nil)) pa_nil))))))), ?_⟩)
  · obtain ⟨a, g, f, given, rfl, _⟩ := h
    rfl
  · obtain ⟨a, g, f, given, rfl, hf, hS, hG, hP, kO, kE⟩ := h
    have hN := N_bd hf
    have h1 := hf.n1
    obtain ⟨b1, b2, b3⟩ := bst_is hf
    refine ⟨_, rfl, a, f, rfl, hf, hS, fun H2 q s2 hq0 hq => ⟨_, rfl, q, (List.range f.n).map fun i => (swc f i : Int), rfl, ?_, ?_, fun m hm hle => ?_⟩⟩
    · rw [List.map_map]
      exact SqL.of hq
    · rw [List.length_map, List.length_range]
      omega
    have em : m = (swc f (bst f) : Int) := by
      obtain ⟨i, hi, e⟩ := List.mem_map.mp hm
      have h3 := b2 i (List.mem_range.mp hi)
      have h4 := hle (swc f (bst f)) (List.mem_map.mpr ⟨bst f, List.mem_range.mpr b1, rfl⟩)
      have e : (swc f i : Int) = m := e
      omega
    subst em
    refine ⟨_, rfl, .inl ⟨rfl, _, SqL.of hq⟩, _, rfl, q, _, _, bst f, .int (swc f (bst f)), rfl, rfl, SqL.of hq, rfl, ?_, rng_put b1, ?_, fun j z hj hz => ?_, by show 1 ≤ sizeLine; decide, fun l hl => ?_⟩
    · rw [List.all_eq_true]
      intro x hx
      obtain ⟨i, _, e⟩ := List.mem_map.mp hx
      rw [← e] <;> rfl
    · simp [eqV]
    · obtain ⟨hj2, rfl⟩ := rng_at hz
      have := b3 j hj
      simp [eqV]
      omega
    have s3 : Same H2 (upd H2 l (.lst [.int (bst f)])) := Same.upd hl
    refine ⟨_, rfl, _, rfl, a, _, rfl, .inl (s3.seq (s2.seq hS)), ?_⟩
    rw [sv_len hf]
    refine ⟨(swc f (bst f) : Int), ((N f : Nat) : Int), rfl, by omega, by omega, fun p hp => ?_⟩
    exact cat_end ((s2.trans s3).trans (Same.upd hp)) (Same.upd hp _ _ upd_same) upd_same two_small (kO _ rfl)
theorem ok_idle (B : Bn mg) {f : Addr} {fd : FuncData} (F : Fun K "idle" "idle" (top 40) f fd) (Gs : Hs P w K mg base CX0 3 "sway_counts" (spScs K)) : FnOk P w K mg base (L2.CX P w) 4 f fd ["says", "given"] (spA K CB CR 0 19) := by
  refine F.okX scIdle (fun vs H Q E h => ?_) (fun cdv A outer s H vs Q E hr h => ⟨_, pss_cons (ps_setLc (i := 2) (own := [("i", 3), ("count", 4)]) (g := gTup K 2 (gCons (gName 3) (gCons (gName 4) gNil))) (tt := tTest (tOp rEq (tVar 4) (tC (.int 0)))) (by rfl) scIdle.nd rfl rfl (sw_true rfl rfl rfl (by decide +kernel)) (pi_enum (by rfl) B.enumerate (pa_cons (pe_h Gs hr (by decide) (pa_cons (pv 0) pa_nil)) pa_nil))
      (blkOk_by (N := ["says", "given", "never", "i", "count"]) (sc := defScope (top 40)) (by decide +kernel)) (fun _ _ _ _ _ => pg_tup rfl (pgs_cons (pg_name (i := 3) scIdle.nd rfl (.inl rfl)) (pgs_cons (pg_name (i := 4) scIdle.nd rfl (.inl rfl)) pgs_nil)))
      (fun _ _ _ _ _ => pts_one (pt_cmpR op_eq (pv 4) pe_int (nomark _))) (fun _ _ _ _ _ => pv 3))
    (pss_one (ps_ret (pe_op op_cat (pe_lst (pa_cons (pe_callB call_len_seq (by rfl) B.len PySem.boot_len (pa_cons (pv 2) pa_nil)) pa_nil)) (pv 2)))), ?_⟩)
  · obtain ⟨a, g, f, given, rfl, _⟩ := h
    rfl
  · obtain ⟨a, g, f, given, rfl, hf, hS, hG, hP, kO, kE⟩ := h
    have hn := hf.n5
    refine ⟨_, rfl, a, f, rfl, hf, hS, fun H2 q s2 hq0 hq => ⟨q, _, rfl, SqL.of hq, fun D new => ?_⟩⟩
    refine lc_en (K := K) (a := q) (xs := (List.range f.n).map fun i => V.int (swc f i)) (fun i H' => Gr H2 D (((List.range i).filter fun i => swc f i == 0).map fun (x : Nat) => V.int x) H') (Gr.start new) (fun i H' g => g.1.seq (SqL.of hq)) (fun i x T H' hi hT g => ?_) (fun H' g => ?_)
    · obtain ⟨hlt, rfl⟩ := rng_at hi
      have g2 := g.to (Same.upd (o := .tup [.int i, .int (swc f i)]) hT)
      refine ⟨T, _, rfl, SqT.of upd_same, rfl, _, _, rfl, _, _, rfl, rfl, rfl, _, rfl, rfl, _, rfl, ?_⟩
      rw [z_dec]
      cases e : swc f i == 0 with
      | true => exact cond_t rfl ⟨_, rfl, g2.put new (flt_len (by omega)) (flt_yes e)⟩
      | false =>
        refine cond_f rfl ?_
        show Gr _ _ _ _
        rw [flt_no (p := fun i => swc f i == 0) e]
        exact g2
    · rw [List.length_map, List.length_range] at g
      refine ⟨_, rfl, D, _, rfl, .inl (SqL.of g.2), by show 1 ≤ sizeLine; decide, fun l hl => ⟨_, rfl, ?_⟩⟩
      have k := kO _ rfl
      refine cat_end ((s2.trans g.1).trans (Same.upd hl)) upd_same (Same.upd hl _ _ g.2) (size_small ?_) ?_
      · have := List.length_filter_le (fun i => swc f i == 0) (List.range f.n)
        simp at this ⊢
        omega
      · rw [List.map_cons, List.map_map] at k
        rw [List.length_map]
        exact k
end
end Bw
namespace Bw
open PySem PySem.Spec PyProof.Rows L2
def lvAcc (f : Krdk.Answer) (i : Nat) : List V := V.int ((f.n : Int) + 1) :: (List.range i).flatMap fun k => frV (lev f k) (N f * N f : Nat)
theorem lvAcc_more (f : Krdk.Answer) (i : Nat) : lvAcc f (i + 1) = lvAcc f i ++ frV (lev f i) (N f * N f : Nat) := by
  unfold lvAcc
  rw [List.range_succ, List.flatMap_append, List.cons_append]
  simp
theorem lvAcc_len (f : Krdk.Answer) : ∀ i, (lvAcc f i).length = 1 + 2 * i
  | 0 => rfl
  | i + 1 => by
    rw [lvAcc_more, List.length_append, lvAcc_len f i]
    show 1 + 2 * i + 2 = _
    omega
theorem But.seq0 {K : PySem.W.Frag} {p a : Addr} {H H' : Hp} {xs : List V} (s : But p H H') (h : SqL K H a xs) (n : H p = none) : SqL K H' a xs := by
  rcases h with (h | ⟨o, h⟩) | h
  · exact .inl (.inl (s _ _ h (ne_of_none h n)))
  · exact .inl (.inr ⟨o, s _ _ h (ne_of_none h n)⟩)
  · exact .inr h
def ptp (f : Krdk.Answer) (s : Nat) : Bool := psum f s != 0
def ptAcc (f : Krdk.Answer) (c : Int) (i : Nat) : List V := V.int c :: ((List.range i).filter (ptp f)).flatMap fun (s : Nat) => V.int (s : Int) :: frV (psum f s) (N f)
theorem ptAcc_yes (f : Krdk.Answer) (c : Int) {i : Nat} (h : ptp f i = true) : ptAcc f c (i + 1) = (ptAcc f c i ++ [V.int i]) ++ frV (psum f i) (N f) := by
  unfold ptAcc
  rw [List.range_succ, List.filter_append, List.filter_cons, if_pos h, List.filter_nil, List.flatMap_append]
  simp
theorem ptAcc_no (f : Krdk.Answer) (c : Int) {i : Nat} (h : ptp f i = false) : ptAcc f c (i + 1) = ptAcc f c i := by
  unfold ptAcc
  rw [List.range_succ, List.filter_append, List.filter_cons, if_neg (by rw [h]; decide), List.filter_nil, List.append_nil]
theorem ptAcc_len (f : Krdk.Answer) (c : Int) : ∀ i, (ptAcc f c i).length ≤ 1 + 3 * i
  | 0 => Nat.le_refl _
  | i + 1 => by
    have ih := ptAcc_len f c i
    cases e : ptp f i with
    | true =>
      rw [ptAcc_yes f c e, List.length_append, List.length_append]
      show _ + 1 + 2 ≤ _
      omega
    | false =>
      rw [ptAcc_no f c e]
      omega
section
variable {P : Program} {w : World} {K : PySem.W.Frag} {mg : Str → Option Value} {base : Heap} {CB CR : Addr}
theorem ok_levels (B : Bn mg) {f : Addr} {fd : FuncData} (F : Fun K "levels" "levels" (top 36) f fd) (G : Hs P w K mg base CX0 2 "lowest_terms" spLow) (Gs : Hs P w K mg base CX0 5 "level_sums" (spLs K)) : FnOk P w K mg base (L2.CX P w) 6 f fd ["says", "given"] (spA K CB CR 0 15) := by
  refine F.okX scLevels (fun vs H Q E h => ?_) (fun cdv A outer s H vs Q E hr h => ⟨_, PSs.nox (pss_cons (ps_set (i := 2) scLevels.nd rfl (.inl rfl) (pe_callB call_len_seq (by rfl) B.len PySem.boot_len (pa_cons (pv 0) pa_nil)))
    (pss_cons (ps_set (i := 3) scLevels.nd rfl (.inl rfl) (pe_h Gs hr (by decide) (pa_cons (pv 0) pa_nil)))
    (pss_cons (ps_set (i := 4) scLevels.nd rfl (.inl rfl) (pe_lst (pa_cons (pe_callB call_len_seq (by rfl) B.len PySem.boot_len (pa_cons (pv 3) pa_nil)) pa_nil)))
    (pss_cons (ps_for PassesOwn.never rfl (pi_list (pv 3)) (pg_name (i := 5) scLevels.nd rfl (.inl rfl))
      (pss_one (ps_expr (pe_bm PySem.F.plainAttrs_list PySem.F.slot_list_extend PySem.F.type_list_extend mt_extend (pv 4) (pa_cons (pe_h G hr (by decide) (pa_cons (pv 5) (pa_cons (pe_op op_mul (pv 2) (pv 2)) pa_nil))) pa_nil)))))
    (pss_one (ps_ret (pv 4))))))), ?_⟩)
  · obtain ⟨a, g, f, given, rfl, _⟩ := h
    rfl
  · obtain ⟨a, g, f, given, rfl, hf, hS, hG, hP, kO, kE⟩ := h
    have hN := N_bd hf
    have hn := hf.n5
    have h2 : N f * N f ≤ 32 * 32 := Nat.mul_le_mul hN.2 hN.2
    have h3 : 0 < N f * N f := Nat.mul_pos hN.1 hN.1
    have e2 : ((N f : Nat) : Int) * ((N f : Nat) : Int) = ((N f * N f : Nat) : Int) := (Int.natCast_mul _ _).symm
    refine ⟨_, rfl, a, _, rfl, .inl hS, ?_⟩
    rw [sv_len hf]
    refine ⟨_, rfl, a, f, rfl, hf, hS, fun H1 q s1 hq0 hq => ⟨_, rfl, q, _, rfl, .inl (SqL.of hq), by show 1 ≤ sizeLine; decide, fun p hp => ?_⟩⟩
    rw [List.length_map, List.length_range]
    have hp1 : (upd H1 p (.lst [V.int ((f.n + 1 : Nat) : Int)])) p = some (.lst (lvAcc f 0)) := by
      rw [upd_same] <;> rfl
    have npq : q ≠ p := ne_of_none hq hp
    have pnone : H p = none := s1.free hp
    refine ⟨_, rfl, q, rfl, ⟨_, SqL.of ((Same.upd hp) _ _ hq)⟩, for_list (K := K) (a := q) (xs := (List.range (f.n + 1)).map fun k => V.int (lev f k)) (fun i σ H' => (∃ v : Option V, σ = [some (.ref a), some (.ref g), some (.int ((N f : Nat) : Int)), some (.ref q), some (.ref p), v]) ∧ But p H1 H' ∧ H' p = some (.lst (lvAcc f i)))
      ⟨⟨none, rfl⟩, fun b o e n => (upd_ne n).trans e, hp1⟩ (fun i σ H' _ z => z.2.1.seq (SqL.of hq) npq) (fun i x σ H' hi z => ?_) (fun σ H' z => ?_)⟩
    · obtain ⟨⟨v, rfl⟩, s2, hp2⟩ := z
      obtain ⟨hlt, rfl⟩ := rng_at hi
      refine ⟨_, rfl, .inl ⟨rfl, _, SqL.of hp2⟩, _, rfl, _, rfl, _, rfl, ((N f : Nat) : Int), ((N f : Nat) : Int), rfl, rfl, .inl ⟨by omega, by omega⟩, ?_⟩
      refine ⟨lev f i, ((N f * N f : Nat) : Int), by rw [← e2]; rfl, by omega, by omega, fun r hr0 => ?_⟩
      have s3 : Same H' (upd H' r (.lst (frV (lev f i) ((N f * N f : Nat) : Int)))) := Same.upd hr0
      refine ⟨p, r, _, _, rfl, rfl, s3 _ _ hp2, upd_same, ?_, ⟨_, rfl⟩, (s2.new hr0).upd, ?_⟩
      · rw [lvAcc_len]
        exact size_small (by show 1 + 2 * i + 2 ≤ _; omega)
      · rw [upd_same, lvAcc_more]
    · obtain ⟨⟨v, rfl⟩, s2, hp2⟩ := z
      rw [List.length_map, List.length_range] at hp2
      refine ⟨_, rfl, ?_⟩
      have k := kO _ rfl
      rw [List.map_cons, List.map_flatMap] at k
      exact k H' p (s2.same s1 pnone) pnone hp2
theorem ok_parts (B : Bn mg) {f : Addr} {fd : FuncData} (F : Fun K "parts" "parts" (top 35) f fd) (G : Hs P w K mg base CX0 2 "lowest_terms" spLow) (Gs : Hs P w K mg base CX0 4 "part_sums" (spPp K)) : FnOk P w K mg base (L2.CX P w) 5 f fd ["says", "given"] (spA K CB CR 0 14) := by
  refine F.okX scParts (fun vs H Q E h => ?_) (fun cdv A outer s H vs Q E hr h => ⟨_, PSs.nox (pss_cons (ps_set (i := 2) scParts.nd rfl (.inl rfl) (pe_h Gs hr (by decide) (pa_cons (pv 0) pa_nil)))
    (pss_cons (ps_set (i := 3) scParts.nd rfl (.inl rfl) (pe_lst (pa_cons (pe_callB call_len_seq (by rfl) B.len PySem.boot_len (pa_cons (pe_lc (own := [("total", 5)]) (g := gName 5) (tt := tTest (tOp rNe (tVar 5) (tC (.int 0)))) (by rfl) scParts.nd (pi_list (pv 2))
        (blkOk_by (N := ["says", "given", "sums", "numbers", "s", "total"]) (sc := defScope (top 35)) (by decide +kernel)) (fun _ _ _ _ _ => pg_name (i := 5) scParts.nd rfl (.inl rfl)) (fun _ _ _ _ _ => pts_one (pt_cmpR op_ne (pv 5) pe_int (nomark _))) (fun _ _ _ _ _ => pv 5)) pa_nil)) pa_nil)))
    (pss_cons (ps_for PassesOwn.never rfl (pi_enum (by rfl) B.enumerate (pa_cons (pv 2) pa_nil)) (pg_tup rfl (pgs_cons (pg_name (i := 4) scParts.nd rfl (.inl rfl)) (pgs_cons (pg_name (i := 5) scParts.nd rfl (.inl rfl)) pgs_nil)))
      (pss_one (ps_if (pt_cmpR op_ne (pv 5) pe_int (nomark _))
        (pss_cons (ps_expr (pe_bm PySem.F.plainAttrs_list PySem.F.slot_list_append PySem.F.type_list_append mt_append (pv 3) (pa_cons (pv 4) pa_nil)))
        (pss_one (ps_expr (pe_bm PySem.F.plainAttrs_list PySem.F.slot_list_extend PySem.F.type_list_extend mt_extend (pv 3) (pa_cons (pe_h G hr (by decide) (pa_cons (pv 5) (pa_cons (pe_callB call_len_seq (by rfl) B.len PySem.boot_len (pa_cons (pv 0) pa_nil)) pa_nil))) pa_nil))))) pss_nil)))
    (pss_one (ps_ret (pv 3)))))), ?_⟩)
  · obtain ⟨a, g, f, given, rfl, _⟩ := h
    rfl
  · obtain ⟨a, ga, f, given, rfl, hf, hS, hG, hP, kO, kE⟩ := h
    have hN := N_bd hf
    have hp32 := pow_le32 hf.lt
    refine ⟨_, rfl, a, f, rfl, hf, hS, fun H1 q s1 hq0 hq => ?_⟩
    refine ⟨_, rfl, q, rfl, ⟨_, SqL.of hq⟩, fun D new => ?_⟩
    refine lc_list (K := K) (a := q) (xs := (List.range (2 ^ f.n)).map fun s => V.int (psum f s)) (fun i H' => Gr H1 D (((List.range i).filter (ptp f)).map fun s => V.int (psum f s)) H') (Gr.start new) (fun i H' _ g => g.1.seq (SqL.of hq)) (fun i x H' hi g => ?_) (fun H' g => ?_)
    · obtain ⟨hlt, rfl⟩ := rng_at hi
      refine ⟨rfl, _, rfl, rfl, _, rfl, ?_⟩
      rw [nz_dec]
      cases e : psum f i != 0 with
      | true => exact cond_t rfl ⟨_, rfl, g.put new (flt_len (by omega)) (flt_yes (p := ptp f) e)⟩
      | false =>
        refine cond_f rfl ?_
        show Gr _ _ _ _
        rw [flt_no (p := ptp f) e]
        exact g
    rw [List.length_map, List.length_range] at g
    refine ⟨D, _, rfl, .inl (SqL.of g.2), by show 1 ≤ sizeLine; decide, fun p hp => ?_⟩
    rw [List.length_map]
    generalize hc : (((List.range (2 ^ f.n)).filter (ptp f)).length : Int) = c
    have hqH : H' q = some (.lst ((List.range (2 ^ f.n)).map fun s => V.int (psum f s))) := g.1 _ _ hq
    have npq : q ≠ p := ne_of_none hqH hp
    have pnone : H p = none := (s1.trans g.1).free hp
    have npa : SqL K H' a (sv f) := g.1.seq (s1.seq hS)
    refine ⟨_, rfl, q, _, rfl, SqL.of ((Same.upd hp) _ _ hqH), ?_⟩
    refine for_en (K := K) (a := q) (xs := (List.range (2 ^ f.n)).map fun s => V.int (psum f s)) (fun i σ H2 => (∃ v1 v2 : Option V, σ = [some (.ref a), some (.ref ga), some (.ref q), some (.ref p), v1, v2]) ∧ But p H' H2 ∧ H2 p = some (.lst (ptAcc f c i)))
      ⟨⟨none, none, rfl⟩, fun b o e n => (upd_ne n).trans e, by rw [upd_same]; rfl⟩ (fun i σ H2 z => z.2.1.seq (SqL.of hqH) npq) (fun i x T σ H2 hi hT z => ?_) (fun σ H2 z => ?_)
    · obtain ⟨⟨v1, v2, rfl⟩, s2, hp2⟩ := z
      obtain ⟨hlt, rfl⟩ := rng_at hi
      have hp3 : (upd H2 T (.tup [.int i, .int (psum f i)])) p = some (.lst (ptAcc f c i)) := (Same.upd hT) _ _ hp2
      have s3 := s2.new (o := .tup [.int i, .int (psum f i)]) hT
      refine ⟨T, _, rfl, SqT.of upd_same, rfl, _, _, rfl, _, _, rfl, rfl, _, rfl, rfl, _, rfl, ?_⟩
      rw [nz_dec]
      have hlen := ptAcc_len f c i
      cases e : psum f i != 0 with
      | true =>
        have hY := ptAcc_yes f c (i := i) e
        have h4 : (ptAcc f c i).length < sizeLine := Nat.lt_of_le_of_lt hlen (small1000 (by omega))
        refine cond_t rfl ⟨_, rfl, .inl ⟨rfl, _, SqL.of hp3⟩, _, rfl, p, _, _, rfl, rfl, hp3, h4, ?_⟩
        have na : SqL K (upd (upd H2 T (.tup [.int i, .int (psum f i)])) p (.lst (ptAcc f c i ++ [V.int i]))) a (sv f) := s3.upd.seq0 npa hp
        refine ⟨_, rfl, .inl ⟨rfl, _, SqL.of upd_same⟩, _, rfl, _, rfl, a, _, rfl, .inl na, ?_⟩
        rw [sv_len hf]
        refine ⟨psum f i, ((N f : Nat) : Int), rfl, by omega, by omega, fun r hr0 => ?_⟩
        refine ⟨p, r, _, _, rfl, rfl, (Same.upd hr0) _ _ upd_same, upd_same, ?_, ⟨_, _, rfl⟩, ((s3.upd).new hr0).upd, ?_⟩
        · rw [List.length_append]
          exact size_small (by show _ + 1 + 2 ≤ _; omega)
        · rw [upd_same, hY]
      | false =>
        refine cond_f rfl ⟨⟨_, _, rfl⟩, s3, ?_⟩
        rw [ptAcc_no f c (i := i) e]
        exact hp3
    · obtain ⟨⟨v1, v2, rfl⟩, s2, hp2⟩ := z
      rw [List.length_map, List.length_range] at hp2
      refine ⟨_, rfl, ?_⟩
      have k := kO _ rfl
      rw [List.map_cons, List.map_flatMap] at k
      refine k H2 p (s2.same (s1.trans g.1) pnone) pnone ?_
      rw [hp2, ← hc]
      rfl
end
end Bw
namespace Bw
open PySem PySem.Spec PyProof.Rows L2
/-! ### things that stand still while a call runs -/
/-- the object at b is o and nobody may write it -/
def ice (b : Addr) (o : Obj) : HO := .frz o (.ext fun h => h.get? b = some o)
theorem ice_lst {b : Addr} {o o' : Obj} {xs : List V} : ice b o ≠ .frz o' (.lst xs) := fun z => by
  unfold ice at z
  cases z
theorem ice_inj {b : Addr} {o o' : Obj} (h : ice b o = ice b o') : o = o' := by
  unfold ice at h
  cases h
  rfl
/-- what is not tracked, is no frame and stands above the base is held fast -/
def Fz (base : Heap) (fs : List Addr) (H : Hp) (h : Heap) (b : Addr) : Prop := H b = none ∧ base.get? b = none ∧ b ∉ fs ∧ ∃ o, h.get? b = some o
open Classical in
noncomputable def cold (base : Heap) (fs : List Addr) (H : Hp) (h : Heap) : Hp := fun b =>
  if Fz base fs H h b then (match h.get? b with | some o => some (ice b o) | none => none) else H b
/-- held fast so -/
def Iced (G : Hp) (b : Addr) : Prop := ∃ o, G b = some (ice b o)
open Classical in
noncomputable def warm (G : Hp) : Hp := fun b => if Iced G b then none else G b
section
variable {P : Program} {w : World} {K : PySem.W.Frag} {mg : Str → Option Value} {base : Heap} {fs : List Addr} {H G : Hp} {h : Heap} {b : Addr}
theorem cold_yes {o : Obj} (z : Fz base fs H h b) (e : h.get? b = some o) : cold base fs H h b = some (ice b o) := by
  unfold cold
  rw [if_pos z, e]
theorem cold_no (z : ¬ Fz base fs H h b) : cold base fs H h b = H b := if_neg z
theorem cold_old {o : HO} (e : H b = some o) : cold base fs H h b = some o := by
  rw [cold_no fun z => by rw [z.1] at e; cases e]
  exact e
theorem cold_same : Same H (cold base fs H h) := fun _ _ e => cold_old e
theorem warm_iced (z : Iced G b) : warm G b = none := if_pos z
theorem warm_not (z : ¬ Iced G b) : warm G b = G b := if_neg z
theorem warm_of {o : HO} (e : warm G b = some o) : G b = some o ∧ ¬ Iced G b := by
  by_cases z : Iced G b
  · rw [warm_iced z] at e
    cases e
  · rw [warm_not z] at e
    exact ⟨e, z⟩
theorem ice_ok {o : Obj} (e : h.get? b = some o) : ObjOk P w G h b (ice b o) := ⟨e, e, ⟨o, e⟩, fun h1 h2 p st => st _ p⟩
theorem cold_hok (x : HOk P w H h) : HOk P w (cold base fs H h) h := fun a u e => by
  by_cases z : Fz base fs H h a
  · obtain ⟨o, ho⟩ := z.2.2.2
    rw [cold_yes z ho] at e
    cases e
    exact ice_ok ho
  · rw [cold_no z] at e
    exact (x a u e).stay (fun _ _ _ q => q) (fun _ q => cold_old q) fun _ _ q => cold_old q
theorem warm_hok (x : HOk P w G h) : HOk P w (warm G) h := fun a u e => by
  obtain ⟨e1, _⟩ := warm_of e
  refine (x a u e1).stay (fun _ _ _ q => q) (fun c q => ?_) fun c xs q => ?_
  · rw [warm_not fun ⟨o, z⟩ => by rw [z] at q; unfold ice at q; cases q]
    exact q
  · rw [warm_not fun ⟨o, z⟩ => by rw [z] at q; unfold ice at q; cases q]
    exact q
theorem warm_seq {a : Addr} {xs : List V} (q : SqL K G a xs) : SqL K (warm G) a xs := by
  rcases q with (q | ⟨o, q⟩) | q
  · refine .inl (.inl ?_)
    rw [warm_not fun ⟨o, z⟩ => by rw [z] at q; unfold ice at q; cases q]
    exact q
  · refine .inl (.inr ⟨o, ?_⟩)
    rw [warm_not fun ⟨o2, z⟩ => by rw [z] at q; unfold ice at q; cases q]
    exact q
  · exact .inr q
variable {A : Around} {outer : List Env} {s : Shared}
theorem cold_env (e : Env0 P w K mg base A outer s H) : Env0 P w K mg base A outer s (cold base (frs outer) H s.heap) :=
  ⟨e.frames, e.mod, fun b o q => ⟨(e.bs b o q).1, (cold_no fun z => by rw [z.2.1] at q; cases q).trans (e.bs b o q).2⟩, e.bsz, e.funs, fun b q => (cold_no fun z => z.2.2.1 q).trans (e.frf b q), cold_hok e.hok, e.bare⟩
theorem warm_env (e : Env0 P w K mg base A outer s G) : Env0 P w K mg base A outer s (warm G) :=
  ⟨e.frames, e.mod, fun b o q => ⟨(e.bs b o q).1, (warm_not fun ⟨o2, z⟩ => by rw [(e.bs b o q).2] at z; cases z).trans (e.bs b o q).2⟩, e.bsz, e.funs, fun b q => (warm_not fun ⟨o2, z⟩ => by rw [e.frf b q] at z; cases z).trans (e.frf b q), warm_hok e.hok, e.bare⟩
/-- the iced things of G taken up again behind a call that ran without them -/
noncomputable def rewarm (G H' : Hp) : Hp := by
  classical exact fun b => if Iced G b then G b else H' b
theorem re_iced {H' : Hp} (z : Iced G b) : rewarm G H' b = G b := by
  unfold rewarm
  exact if_pos z
theorem re_not {H' : Hp} (z : ¬ Iced G b) : rewarm G H' b = H' b := by
  unfold rewarm
  exact if_neg z
theorem re_same {H' : Hp} (z : Same (warm G) H') : Same G (rewarm G H') := fun b o e => by
  by_cases q : Iced G b
  · rw [re_iced q]
    exact e
  · rw [re_not q]
    exact z b o ((warm_not q).trans e)
/-- a call that ran without the iced things ran with them -/
theorem call_warm {Q Q' : VK} {r : Result} {s' : Shared} (e : Env0 P w K mg base A outer s G) (hq : ∀ v H', Q v H' → Q' v (rewarm G H'))
    (x : CR CX0 outer P w (warm G) s Q E0 r s') : CR CX0 outer P w G s Q' E0 r s' := by
  cases r with
  | error er => exact x
  | ok fl =>
    cases fl with
    | next => exact x
    | brk => exact x
    | cont => exact x
    | ret u =>
      obtain ⟨v, H', os, bare, un, hok, rv, q⟩ := x
      have iceAt : ∀ b, Iced G b → ∃ o, G b = some (ice b o) ∧ s.heap.get? b = some o ∧ s'.heap.get? b = some o ∧ H' b = none := fun b z => by
        obtain ⟨o, ho⟩ := z
        have h1 := (e.hok b _ ho).1
        have nf : b ∉ frs outer := fun hm => by
          rw [e.frf b hm] at ho
          cases ho
        exact ⟨o, ho, h1, un.keep b o h1 (warm_iced ⟨o, ho⟩) nf (by simp), un.free b o h1 (warm_iced ⟨o, ho⟩) (by simp)⟩
      refine ⟨v, rewarm G H', os, bare, ⟨fun b o h1 n nf nx => ?_, fun b o h1 n nf nx => ?_, fun b o h1 n nx => ?_, un.there, fun b xs h1 => ?_, fun b o u h1 => ?_, fun b ps h1 => ?_⟩, fun b u h1 => ?_, rv, hq v H' q⟩
      · have ni : ¬ Iced G b := fun ⟨o2, z⟩ => by
          rw [n] at z
          cases z
        exact un.keep b o h1 ((warm_not ni).trans n) nf nx
      · have ni : ¬ Iced G b := fun ⟨o2, z⟩ => by
          rw [n] at z
          cases z
        exact un.slot b o h1 ((warm_not ni).trans n) nf nx
      · have ni : ¬ Iced G b := fun ⟨o2, z⟩ => by
          rw [n] at z
          cases z
        rw [re_not ni]
        exact un.free b o h1 ((warm_not ni).trans n) nx
      · have ni : ¬ Iced G b := fun ⟨o2, z⟩ => by
          rw [h1] at z
          unfold ice at z
          cases z
        rw [re_not ni]
        exact un.tups b xs ((warm_not ni).trans h1)
      · by_cases ni : Iced G b
        · rw [re_iced ni]
          exact h1
        · rw [re_not ni]
          exact un.frzs b o u ((warm_not ni).trans h1)
      · have ni : ¬ Iced G b := fun ⟨o2, z⟩ => by
          rw [h1] at z
          unfold ice at z
          cases z
        obtain ⟨more, hm⟩ := un.tbls b ps ((warm_not ni).trans h1)
        exact ⟨more, by rw [re_not ni]; exact hm⟩
      · by_cases ni : Iced G b
        · rw [re_iced ni] at h1
          obtain ⟨o, g1, g2, g3, g4⟩ := iceAt b ni
          rw [g1] at h1
          cases h1
          exact ice_ok g3
        · rw [re_not ni] at h1
          have keep : ∀ c v, H' c = some v → rewarm G H' c = some v := fun c v hc => by
            rw [re_not fun z => by
              obtain ⟨o, _, _, _, g4⟩ := iceAt c z
              rw [hc] at g4
              cases g4]
            exact hc
          exact (hok b u h1).stay (fun _ _ _ q => q) (fun c q => keep c _ q) fun c xs q => keep c _ q
/-- a call that ran with things iced ran without -/
noncomputable def thawed (base : Heap) (fs : List Addr) (H : Hp) (h : Heap) (G' : Hp) : Hp := by
  classical exact fun b => if Fz base fs H h b then none else G' b
theorem th_no {G' : Hp} (z : ¬ Fz base fs H h b) : thawed base fs H h G' b = G' b := by
  unfold thawed
  exact if_neg z
theorem th_yes {G' : Hp} (z : Fz base fs H h b) : thawed base fs H h G' b = none := by
  unfold thawed
  exact if_pos z
theorem th_same {G' : Hp} (z : Same (cold base fs H h) G') : Same H (thawed base fs H h G') := fun b o e => by
  rw [th_no fun q => by rw [q.1] at e; cases e]
  exact z b o (cold_old e)
theorem call_cold {Q Q' : VK} {r : Result} {s' : Shared} (e : Env0 P w K mg base A outer s H) (hq : ∀ v G', Q v G' → Q' v (thawed base (frs outer) H s.heap G'))
    (x : CR CX0 outer P w (cold base (frs outer) H s.heap) s Q E0 r s') : CR CX0 outer P w H s Q' E0 r s' := by
  cases r with
  | error er => exact x
  | ok fl =>
    cases fl with
    | next => exact x
    | brk => exact x
    | cont => exact x
    | ret u =>
      obtain ⟨v, G', os, bare, un, hok, rv, q⟩ := x
      have iceAt : ∀ b, Fz base (frs outer) H s.heap b → ∃ o, s.heap.get? b = some o ∧ s'.heap.get? b = some o ∧ G' b = some (ice b o) := fun b z => by
        obtain ⟨o, ho⟩ := z.2.2.2
        have g := un.frzs b o _ (cold_yes z ho)
        exact ⟨o, ho, (hok b _ g).1, g⟩
      refine ⟨v, thawed base (frs outer) H s.heap G', os, bare, ⟨fun b o h1 n nf nx => ?_, fun b o h1 n nf nx => ?_, fun b o h1 n nx => ?_, un.there, fun b xs h1 => ?_, fun b o u h1 => ?_, fun b ps h1 => ?_⟩, fun b u h1 => ?_, rv, hq v G' q⟩
      · by_cases z : Fz base (frs outer) H s.heap b
        · obtain ⟨o2, g1, g2, _⟩ := iceAt b z
          rw [h1] at g1
          cases g1
          exact g2
        · exact un.keep b o h1 ((cold_no z).trans n) nf nx
      · have z : ¬ Fz base (frs outer) H s.heap b := fun z => z.2.2.1 nf
        exact un.slot b o h1 ((cold_no z).trans n) nf nx
      · by_cases z : Fz base (frs outer) H s.heap b
        · exact th_yes z
        · rw [th_no z]
          exact un.free b o h1 ((cold_no z).trans n) nx
      · rw [th_no fun z => by rw [z.1] at h1; cases h1]
        exact un.tups b xs (cold_old h1)
      · rw [th_no fun z => by rw [z.1] at h1; cases h1]
        exact un.frzs b o u (cold_old h1)
      · obtain ⟨more, hm⟩ := un.tbls b ps (cold_old h1)
        exact ⟨more, by rw [th_no fun z => by rw [z.1] at h1; cases h1]; exact hm⟩
      · by_cases z : Fz base (frs outer) H s.heap b
        · rw [th_yes z] at h1
          cases h1
        · rw [th_no z] at h1
          have keep : ∀ c v, G' c = some v → (∀ o, v ≠ ice c o) → thawed base (frs outer) H s.heap G' c = some v := fun c v hc nv => by
            rw [th_no fun z => by
              obtain ⟨o, _, _, g⟩ := iceAt c z
              rw [hc] at g
              cases g
              exact nv o rfl]
            exact hc
          exact (hok b u h1).stay (fun _ _ _ q => q) (fun c q => keep c _ q fun o z => by unfold ice at z; cases z) fun c xs q => keep c _ q fun o z => by unfold ice at z; cases z
end
end Bw
namespace Bw
open PySem PySem.Spec PyProof.Rows L2 LamX NdefX
/-- an object that stands fast -/
def sol (base : Heap) (G : Hp) (b : Addr) (o : Obj) : Prop := G b = some (ice b o) ∨ base.get? b = some o
section
variable {P : Program} {w : World} {K : PySem.W.Frag} {mg : Str → Option Value} {base : Heap} {A : Around} {outer : List Env} {s : Shared} {G G' : Hp} {b : Addr} {o : Obj}
theorem sol_get (e : Env0 P w K mg base A outer s G) (z : sol base G b o) : s.heap.get? b = some o := by
  rcases z with z | z
  · exact (e.hok b _ z).1
  · exact (e.bs b o z).1
theorem sol_same (z : sol base G b o) (q : Same G G') : sol base G' b o := z.elim (fun z => .inl (q _ _ z)) .inr
theorem sol_warm (e : Env0 P w K mg base A outer s G) (z : sol base G b o) : warm G b = none := by
  rcases z with z | z
  · exact warm_iced ⟨o, z⟩
  · have h := (e.bs b o z).2
    exact (warm_not fun ⟨o2, q⟩ => by rw [h] at q; cases q).trans h
/-- a made lambda with what its cells hold -/
structure LamAt (base : Heap) (F : NF) (f : Addr) (body : Expr) (fr : List Str) (ws : List (Option V)) (G : Hp) : Prop where
  ob : ∃ pm ctv, sol base G f (PySem.W.kla_obj "<lambda>" F.qual F.params body F.scope F.cl pm F.c ctv)
  code : G F.c = some (CodeO F.c F.qual)
  len : ws.length = fr.length
  cells : ∀ y c, F.cl.lookup y = some c → ∃ o v, sol base G c o ∧ o.data = .cell v
  inj : ∀ x y c, F.cl.lookup x = some c → F.cl.lookup y = some c → x = y
  has : ∀ (i : Nat) (y : Str), fr[i]? = some y → ∃ c, F.cl.lookup y = some c ∧ ∀ v, ws[i]? = some (some v) → ∃ u o, RelV v u ∧ sol base G c o ∧ o.data = .cell (some u)
theorem LamAt.same {F : NF} {f : Addr} {body : Expr} {fr : List Str} {ws : List (Option V)} (L : LamAt base F f body fr ws G) (q : Same G G') : LamAt base F f body fr ws G' := by
  obtain ⟨pm, ctv, h⟩ := L.ob
  refine ⟨⟨pm, ctv, sol_same h q⟩, q _ _ L.code, L.len, fun y c e => ?_, L.inj, fun i y e => ?_⟩
  · obtain ⟨o, v, h1, h2⟩ := L.cells y c e
    exact ⟨o, v, sol_same h1 q, h2⟩
  · obtain ⟨c, h1, h2⟩ := L.has i y e
    refine ⟨c, h1, fun v ev => ?_⟩
    obtain ⟨u, o, g1, g2, g3⟩ := h2 v ev
    exact ⟨u, o, g1, sol_same g2 q, g3⟩
theorem LamAt.cellsAt {F : NF} {f : Addr} {body : Expr} {fr : List Str} {ws : List (Option V)} (L : LamAt base F f body fr ws G) (e : Env0 P w K mg base A outer s G) : CellsAt F.cl fr ws s.heap (warm G) := by
  refine ⟨L.len, fun y c h => ?_, L.inj, fun i y h => ?_⟩
  · obtain ⟨o, v, h1, h2⟩ := L.cells y c h
    exact ⟨sol_warm e h1, v, o, sol_get e h1, h2⟩
  · obtain ⟨c, h1, h2⟩ := L.has i y h
    refine ⟨c, h1, fun v ev => ?_⟩
    obtain ⟨u, o, g1, g2, g3⟩ := h2 v ev
    exact ⟨u, g1, o, sol_get e g2, g3⟩
/-- a rule: what x it is asked of, it says r x -/
structure Rules (P : Program) (w : World) (K : PySem.W.Frag) (mg : Str → Option Value) (base : Heap) (k : Nat) (f : Addr) (r : Nat → Bool) (m : Nat) (G : Hp) : Prop where
  fn : ∃ (o : Obj) (oc : Value) (od : Option Addr) (fd : FuncData) (sl : Array (Option Value)), sol base G f o ∧ o = ⟨oc, od, .func fd, sl⟩
  run : ∀ (x : Nat), x < m → ∀ G', Same G G' → ∀ (A : Around) (outer : List Env) (s : Shared) (Q : VK), Room k A → Env0 P w K mg base A outer s G' → SV G' (.bl (r x)) Q → ∀ u, RelV (.int (x : Int)) u →
    codeAny (model P w) A (.call (.ref f) ⟨[u], []⟩) (CR CX0 outer P w G' s Q E0) s
theorem lam_rule {N fr : List Str} {F : NF} {f : Addr} {body : Expr} {ws : List (Option V)} {r : Nat → Bool} {m k : Nat} {tb : TE} (S : NScope N ["x"] fr F.scope) (L : LamAt base F f body fr ws G)
    (hb : ∀ (pm ctv u : Value), bindArgs (PySem.W.kla_fn "<lambda>" F.qual F.params body F.scope F.cl pm (.ref F.c) ctv) ⟨[u], []⟩ = pure ((["x"] : List Str).zip [u]))
    (hp : ∀ (A : Around) (outer : List Env) (s : Shared) (H : Hp), Room k (A.deeper (envF F f s.heap.objs.size)) → PE (ncx CX0 P w K mg base N F f A outer s H E0) body tb)
    (ht : ∀ (H : Hp) (x : Nat) (Q : VK), (∀ a xs, SqL K G a xs → SqL K H a xs) → x < m → SV H (.bl (r x)) Q → tb (startF N [.int x] ws) H Q) : Rules P w K mg base (k + 1) f r m G := by
  obtain ⟨pm, ctv, ho⟩ := L.ob
  refine ⟨⟨_, _, _, _, _, ho, rfl⟩, fun x hx G' q A outer s Q hr e0 sv u ru => ?_⟩
  have L' := L.same q
  have ho' := sol_get e0 (sol_same ho q)
  obtain ⟨⟨oc, vs, t, hoc, hdc, hvc⟩, _, _⟩ := e0.hok F.c _ L'.code
  have lim : s.heap.NoLimit := e0.mod.nolimit.keeps fun b o z => (e0.bs b o z).1
  refine codeAny_mono (?_ : codeAny (model P w) A (.call (.ref f) ⟨[u], []⟩) (CR CX0 outer P w (warm G') s (fun v H' => Q v (rewarm G' H')) E0) s) fun r' s' hq => call_warm e0 (fun v H' z => z) hq
  refine PySem.W.kla_callFunE hr.depth ho' rfl S.co S.gen rfl ⟨F.c, oc, vs, t, rfl, hoc, hdc, hvc⟩ ?_
  rw [hb pm ctv u]
  refine wpAny_pure (wpAny_newFunctionEnv S.nocell (fun ⟨nm, _⟩ hy => S.par nm (List.of_mem_zip hy).1) (fun h1 hns hsb => ⟨lim.fresh _ hsb, ?_⟩) S.kind)
  show codeAny _ _ (.expr body (envF F f s.heap.objs.size)) _ _
  have kp : ∀ b o, s.heap.get? b = some o → h1.get? b = some o := fun b o z => hsb.extBut b o (Nat.ne_of_lt (Heap.lt_size z)) (Heap.get?_push_of_some _ z)
  have J := inv_startN (CX := CX0) (E := E0) (f := f) (tk := s.toks + ((["x"] : List Str).zip [u]).length) S hr.hd (warm_env e0) (vs := [.int (x : Int)]) rfl (.cons ru .nil) (L'.cellsAt e0) hns kp
  have hread : tb (startF N [.int x] ws) (warm G') (fun v H' => Q v (rewarm G' H')) :=
    ht (warm G') x _ (fun a xs z => warm_seq (q.seq z)) hx fun H' sH => sv _ (re_same sH)
  refine PySem.W.kla_codeExpr (wpAny_mono ((hp A outer s (warm G') (hr.deeper _)).run [] _ _ (warm G') _ J hread) (fun v s' hq => ?_) fun e s' hq => hq)
  obtain ⟨v', H', J', rv, q'⟩ := hq
  exact ⟨v', H', J'.os, J'.bare, J'.base, J'.hok, rv, q'⟩
end
section
variable {X : Cx} {x y : Str} {i j kR kk m : Nat} {r : Nat → Bool} {G : Hp} {f : Addr} {p p2 pos : Pos}
/-- rule(y) -/
theorem pe_rule (R : Rules X.prog X.w X.K X.mg X.base kR f r m G) (hr : Room kk X.A) (hk : kR ≤ kk) (hN : X.N[i]? = some x) (hv : Vis X.env.scope x) (hN2 : X.N[j]? = some y) (hv2 : Vis X.env.scope y)
    (hd : (x == ("__debug__" : Str)) = false := by decide) (hcd : (x == ("__classdict__" : Str)) = false := by decide) (hd2 : (y == ("__debug__" : Str)) = false := by decide) (hcd2 : (y == ("__classdict__" : Str)) = false := by decide) :
    PE X (.Call (.Name x p) [.Name y p2] [] pos) (fun σ H Q => σ[i]? = some (some (.ref f)) ∧ ∃ z : Nat, σ[j]? = some (some (.int z)) ∧ z < m ∧ Same G H ∧ SV H (.bl (r z)) Q) := by
  refine ⟨fun pins s σ H Q I h => ?_⟩
  obtain ⟨hs, z, hz, hlt, hsame, k⟩ := h
  have fnat : ∀ {s' : Shared}, Inv X pins σ H s' → PySem.W.FnAt f s'.heap := fun {s'} J => by
    obtain ⟨o, oc, od, fd, sl, h1, h2⟩ := R.fn
    subst h2
    exact ⟨oc, od, fd, sl, sol_get J.env0 (sol_same h1 hsame)⟩
  refine wpAny_Call_Name_kw (thn ((pe_var (pos := p) hN hv hd hcd).run pins s σ H (fun v H1 => v = .ref f ∧ H1 = H) I ⟨.ref f, hs, rfl, rfl⟩) fun u s1 hu => ?_)
  obtain ⟨v, H1, I1, r1, e1, e2⟩ := hu
  subst e1 e2
  obtain rfl : u = Value.ref f := r1
  have ha : PA X [.Name y p2] (tCons (tVar j) tNil) := pa_cons (pe_var hN2 hv2 hd2 hcd2) pa_nil
  refine PySem.W.callWith_F (first := []) (fnat I1) (thn (ha.run pos pins s1 σ H1 (fun vs H2 => vs = [.int (z : Int)] ∧ H2 = H1) I1 ⟨.int z, hz, rfl, rfl⟩) fun us s2 hu => ?_) rfl rfl
  obtain ⟨vs, H2, I2, r2, e1, e2⟩ := hu
  subst e1 e2
  refine ⟨fnat I2, ?_⟩
  cases r2 with
  | cons ru rn =>
    cases rn
    refine wpAny_call (codeAny_mono (R.run z hlt H2 hsame X.A X.stack s2 Q (hr.mono hk) I2.env0 k _ ru) fun res s' hq => ?_)
    cases res with
    | error e => exact False.elim hq
    | ok fl =>
      cases fl with
      | ret u => exact I2.after hq
      | next => exact False.elim hq
      | brk => exact False.elim hq
      | cont => exact False.elim hq
end
abbrev sYw : Stmt := top 47
theorem scYw : FnScope ["says", "rule", "x"] ["says", "rule"] (defScope sYw) := ⟨rfl, rfl, rfl, by decide +kernel, rfl, by decide +kernel, by decide +kernel⟩
def spYw (P : Program) (w : World) (K : PySem.W.Frag) (mg : Str → Option Value) (base : Heap) (kR : Nat) : Sp := fun vs G Q _ => ∃ (a f : Addr) (xs : List V) (m : Nat) (r : Nat → Bool), vs = [.ref a, .ref f] ∧ SqL K G a xs ∧ xs.length = m ∧ m ≤ 32 ∧
  Rules P w K mg base kR f r m G ∧ NL G ((List.range m).map fun x => V.int (bi (r x))) Q
section
variable {P : Program} {w : World} {K : PySem.W.Frag} {mg : Str → Option Value} {base : Heap}
theorem ok_yw (B : Bn mg) {kR : Nat} {f : Addr} {fd : FuncData} (F : Fun K "yes_where" "yes_where" sYw f fd) : FnOk P w K mg base CX0 (kR + 1) f fd ["says", "rule"] (spYw P w K mg base kR) := by
  refine F.ok scYw (fun vs H Q E h => ?_) (fun cdv A outer s H vs Q E hr h => ?_)
  · obtain ⟨a, f, xs, m, r, rfl, _⟩ := h
    rfl
  · obtain ⟨a, g, xs, m, r, rfl, hS, hl, hm, hR, k⟩ := h
    refine ⟨_, pss_one (ps_ret (pe_lc (own := [("x", 2)]) (g := gName 2) (tt := tYes) (te := tIf (tB (fun σ H' Q => σ[1]? = some (some (.ref g)) ∧ ∃ z : Nat, σ[2]? = some (some (.int z)) ∧ z < m ∧ Same H H' ∧ SV H' (.bl (r z)) Q)) (tC (.int 1)) (tC (.int 0))) (by rfl) scYw.nd (pi_range1 rfl B.range (pa_cons (pe_callB call_len_seq (by rfl) B.len PySem.boot_len (pa_cons (pv 0) pa_nil)) pa_nil))
      (blkOk_by (N := ["says", "rule", "x"]) (sc := defScope sYw) (by decide +kernel)) (fun _ _ _ _ _ => pg_name (i := 2) scYw.nd rfl (.inl rfl)) (fun _ _ _ _ _ => pts_nil)
      (fun _ _ _ _ _ => pe_ifExp (pt_val (pe_rule (i := 1) (j := 2) hR hr (Nat.le_refl _) rfl (by first | exact Or.inl rfl | exact Or.inr (Or.inl rfl) | exact Or.inr (Or.inr rfl)) rfl (by first | exact Or.inl rfl | exact Or.inr (Or.inl rfl) | exact Or.inr (Or.inr rfl)))) pe_int pe_int))), ?_⟩
    refine ⟨_, rfl, a, _, rfl, .inl hS, _, rfl, by omega, by omega, fun D new => ?_⟩
    rw [hl, Int.toNat_natCast]
    refine lc_rangeY (n := m) (fun i H' => Gr H D ((List.range i).map fun x => V.int (bi (r x))) H') (Gr.start new) (fun i H' hi gr => ?_) (fun H' gr => gr.end new k)
    refine ⟨rfl, rfl, i, by rw [zint]; rfl, hi, gr.1, fun H2 s2 => ⟨_, rfl, ?_⟩⟩
    cases e : r i with
    | true => exact cond_t rfl ((gr.to s2).put new (map_len (by omega)) (by rw [map_more, e]; rfl))
    | false => exact cond_f rfl ((gr.to s2).put new (map_len (by omega)) (by rw [map_more, e]; rfl))
end
end Bw
namespace Bw
open PySem PySem.Spec PyProof.Rows L2 LamX NdefX
/-- a new list comes out; what was tracked stands, but for the tables of code -/
def NX (T : List (Addr × Str)) (H : Hp) (l : List V) (Q : VK) : Prop :=
  ∀ (H' : Hp) (p : Addr), ExtN H H' → Tabs T H' → (∀ o, H p = some o → ∃ ps, o = HO.tbl ps) → H' p = some (.lst l) → Q (.ref p) H'
theorem extN_seq {K : PySem.W.Frag} {H H' : Hp} {a : Addr} {xs : List V} (e : ExtN H H') (h : SqL K H a xs) : SqL K H' a xs := by
  rcases h with (h | ⟨o, h⟩) | h
  · exact .inl (.inl (e _ _ h fun ps z => by cases z))
  · exact .inl (.inr ⟨o, e _ _ h fun ps z => by cases z⟩)
  · exact .inr h
theorem extN_same {H H1 H' : Hp} (e : ExtN H H1) (s : Same H1 H') : ExtN H H' := fun b o h n => s b o (e b o h n)
theorem same_extN {H H1 H' : Hp} (s : Same H H1) (e : ExtN H1 H') : ExtN H H' := fun b o h n => e b o (s b o h) n
def tWhere (K : PySem.W.Frag) (T : List (Addr × Str)) (N : List Str) (js : List Nat) (tb : TE) : TE := fun σ H Q => ∃ (a : Addr) (xs : List V) (m : Nat) (r : Nat → Bool), σ[0]? = some (some (.ref a)) ∧ SqL K H a xs ∧ xs.length = m ∧ m ≤ 32 ∧ Tabs T H ∧
  (∀ (H2 : Hp) (x : Nat) (Qb : VK), (∀ b ys, SqL K H b ys → SqL K H2 b ys) → x < m → SV H2 (.bl (r x)) Qb → tb (startF N [.int x] (js.map (slotAt σ))) H2 Qb) ∧ NX T H ((List.range m).map fun x => V.int (bi (r x))) Q
section
variable {X : Cx}
theorem frame_low (ok : X.Ok) {b : Addr} (hb : b ∈ X.fs) : b < X.s_0.heap.objs.size := by
  obtain ⟨_, o, e, _⟩ := ok.funs.mem hb
  exact Heap.lt_size e
theorem cell_nofr {pins : List (Addr × Obj)} {σ : L2.St} {H : Hp} {s : Shared} (I : Inv X pins σ H s) (hfn : ∀ y, X.fn y = true) {y : Str} {c : Addr} (e : X.env.cells.lookup y = some c) : c ∉ frs X.stack := fun hm => by
  rcases List.mem_cons.mp (I.stkSub c hm) with z | z
  · exact I.cne y c e z
  · exact absurd (frame_low I.ok z) (Nat.not_lt.mpr (I.ok.cab y c (hfn y) e))
theorem pe_where {T : List (Addr × Str)} {N fr : List Str} {js : List Nat} {tb : TE} {kY kB j : Nat} {c P0 : Addr} {params : Arguments} {body : Expr} {scope : Scope} {p p1 lpos pos : Pos}
    (Y : Hs X.prog X.w X.K X.mg X.base CX0 kY "yes_where" (spYw X.prog X.w X.K X.mg X.base (kB + 1))) (hr : Room j X.A) (hk : kY ≤ j) (TB : TabB X.base X.mg c P0) (hcode : X.env.code = .ref c) (hmT : (P0, X.env.qual ++ "<lambda>") ∈ T)
    (hu : ∀ p ∈ T, p.1 = P0 → p.2 = X.env.qual ++ "<lambda>") (hfn : ∀ y, X.fn y = true) (S : NScope N ["x"] fr scope) (hB : ndefB X.env.scope scope fr = true) (hjs : js.map (fun j => X.N[j]?) = fr.map some)
    (hdef : defaultsOf params X.env = ([], [])) (hb : ∀ (q : Str) (cl : List (Str × Addr)) (pm cv ctv u : Value), bindArgs (PySem.W.kla_fn "<lambda>" q params body scope cl pm cv ctv) ⟨[u], []⟩ = pure ((["x"] : List Str).zip [u]))
    (hp : ∀ (q : Str) (cl : List (Str × Addr)) (c' f : Addr) (A : Around) (outer : List Env) (s : Shared) (H : Hp), Room kB (A.deeper (envF ⟨"<lambda>", q, params, [], scope, cl, c'⟩ f s.heap.objs.size)) →
      PE (ncx CX0 X.prog X.w X.K X.mg X.base N ⟨"<lambda>", q, params, [], scope, cl, c'⟩ f A outer s H E0) body tb)
    (hN0 : X.N[0]? = some ("says" : Str)) (hv0 : Vis X.env.scope "says") (hg : Gl X "yes_where") :
    PE X (.Call (.Name "yes_where" p) [.Name "says" p1, .Lambda params body scope lpos] [] pos) (tWhere X.K T N js tb) := by
  refine ⟨fun pins s σ H Q I h => ?_⟩
  obtain ⟨a, xs, m, r, ha, hS, hl, hm, hT, ht, k⟩ := h
  obtain ⟨g, fd, ps, hmg, hkp, hbY, FY⟩ := Y.ex
  refine wpAny_Call_Name_kw (ld_glob I hg hmg ?_ (by decide))
  refine PySem.W.callWith_K (h₀ := X.base) I.ok.mod.kin hkp ?_ (by rfl) (by rfl)
  show wpAny _ _ (spliced ((false, eval (.Name "says" p1) X.env) :: (false, eval (.Lambda params body scope lpos) X.env) :: [])) _ _ s
  refine Calls.spliced_cons (thn ((pe_var (pos := p1) (i := 0) hN0 hv0 (by decide) (by decide)).run pins s σ H (fun v H1 => v = .ref a ∧ H1 = H) I ⟨.ref a, ha, rfl, rfl⟩) fun u s1 hh => ?_)
  obtain ⟨v, H0, I0, rv, ev, eH⟩ := hh
  subst ev eH
  obtain rfl : u = Value.ref a := rv
  have hfree := ndef_free hB
  have hcl : ∀ y ∈ scope.names, y.2 = .free → ∃ c, X.env.cells.lookup y.1 = some c := fun y hy e => (hfree y hy e).elim (fun z => I0.ok.has _ (.inl z)) fun z => I0.ok.has _ (.inr z)
  refine Calls.spliced_cons (lam_make2 I0 TB hcode hmT hu hT hdef hcl fun f c' pm ctv H1 s' I1 eN T1 hf hfn1 hfr hco => ?_)
  refine Calls.spliced_nil ⟨I1.kIn, ?_⟩
  have e0 := I1.env0
  have eG := cold_env e0
  have solid : ∀ b o, s'.heap.get? b = some o → H1 b = none → b ∉ frs X.stack → sol X.base (cold X.base (frs X.stack) H1 s'.heap) b o := fun b o h1 h2 h3 => by
    cases q : X.base.get? b with
    | none => exact .inl (cold_yes ⟨h2, q, h3, o, h1⟩ h1)
    | some o2 =>
      have h4 := (I1.bs b o2 q).1
      rw [h1] at h4
      cases h4
      exact .inr q
  have cap := Caps.made I1.ok hfree (ndef_fr hB) hjs
  have C := cells_of I1 cap
  have L : LamAt X.base ⟨"<lambda>", X.env.qual ++ "<lambda>", params, [], scope, cloFrom X.env.cells scope.names [], c'⟩ f body fr (js.map (slotAt σ)) (cold X.base (frs X.stack) H1 s'.heap) := by
    refine ⟨⟨pm, ctv, solid f _ hf hfn1 hfr⟩, cold_old hco, C.len, fun y b e => ?_, C.inj, fun i y e => ?_⟩
    · obtain ⟨h1, v, o, h2, h3⟩ := C.all y b e
      exact ⟨o, v, solid b o h2 h1 (cell_nofr I1 hfn (cap.sub y b e)), h3⟩
    · obtain ⟨b, h1, h2⟩ := C.has i y e
      refine ⟨b, h1, fun v ev => ?_⟩
      obtain ⟨u, r1, o, h3, h4⟩ := h2 v ev
      exact ⟨u, o, r1, solid b o h3 (C.all y b h1).1 (cell_nofr I1 hfn (cap.sub y b h1)), h4⟩
  have R := lam_rule (P := X.prog) (w := X.w) (K := X.K) (mg := X.mg) (r := r) (m := m) (k := kB) (tb := tb) S L (fun pm ctv u => hb _ _ _ _ _ u) (fun A outer s H hr2 => hp _ _ _ _ A outer s H hr2)
    (fun H2 x Qb hq hx sv => ht H2 x Qb (fun b ys z => hq b ys (cold_same.seq (extN_seq eN z))) hx sv)
  have hps : ps.length = 2 := (FY.len [.ref a, .ref f] (cold X.base (frs X.stack) H1 s'.heap) (fun _ _ => True) E0 ⟨a, f, xs, m, r, rfl, cold_same.seq (extN_seq eN hS), hl, hm, R, fun _ _ _ _ _ => trivial⟩).symm
  have bnd := hbY s' [.ref a, .ref f] I1.kIn (by rw [hps]; rfl)
  have run := FY.run X.A X.stack s' (cold X.base (frs X.stack) H1 s'.heap) ⟨[.ref a, .ref f], []⟩ [.ref a, .ref f] [.ref a, .ref f] (fun v G' => Q v (thawed X.base (frs X.stack) H1 s'.heap G')) E0 (hr.mono hk) eG bnd (.cons rfl (.cons rfl .nil))
    ⟨a, f, xs, m, r, rfl, cold_same.seq (extN_seq eN hS), hl, hm, R, fun G' q s2 hq0 hq => ?_⟩
  · refine wpAny_call (codeAny_mono run fun res s2 hq => ?_)
    have hq := call_cold e0 (Q' := Q) (fun v G' z => z) hq
    cases res with
    | error e => exact False.elim hq
    | ok fl =>
      cases fl with
      | ret u => exact I1.after hq
      | next => exact False.elim hq
      | brk => exact False.elim hq
      | cont => exact False.elim hq
  · have hs := th_same s2
    have q1 : H1 q = none := cold_same.free hq0
    refine k _ q (extN_same eN hs) (T1.ext hs) (fun o ho => ?_) ?_
    · cases o with
      | tbl ps => exact ⟨ps, rfl⟩
      | _ => exact absurd ((eN q _ ho fun ps z => by cases z).symm.trans q1) (by simp)
    · rw [th_no fun z => ?_]
      · exact hq
      · obtain ⟨o, ho⟩ := z.2.2.2
        rw [cold_yes z ho] at hq0
        cases hq0
end
end Bw
namespace Bw
open PySem PySem.Spec PyProof.Rows L2 LamX NdefX
/-- the name of a lambda's code in the def x -/
def lamQ (x : Str) : Str := (x ++ ".<locals>.") ++ "<lambda>"
/-- a def whose code object is at c -/
structure FunC (K : PySem.W.Frag) (x qual : Str) (st : Stmt) (f : Addr) (fd : FuncData) (c : Addr) : Prop where
  ex : ∃ (oc : Value) (od : Option Addr) (kV doc pm : Value) (an : Option Addr) (ct : Value) (osl : Array (Option Value)),
    fd = PySem.W.fnOf x qual (defArgs st) (defBody st) (defScope st) .none kV doc pm an (.ref c) ct ∧ K.lookup f = some ⟨oc, od, .func fd, osl⟩ ∧ PySem.W.codeIn K (.ref c) qual = true
theorem FunC.okX {P : Program} {w : World} {K : PySem.W.Frag} {mg : Str → Option Value} {base : Heap} {x qual : Str} {st : Stmt} {f c : Addr} {fd : FuncData} {N ps : List Str} {k : Nat} {sp : Sp} (F : FunC K x qual st f fd c) (S : FnScope N ps (defScope st)) (len : ∀ vs H Q E, sp vs H Q E → vs.length = ps.length)
    (hbody : ∀ (A : Around) (outer : List Env) (s : Shared) (H : Hp) (vs : List V) (Q : VK) (E : XK), Room k (A.deeper (envOfC qual (defScope st) s.heap.objs.size f (.ref c))) → sp vs H Q E →
      ∃ t, PSs (cxOf (L2.CX P w) P w K mg base N qual (defScope st) f (.ref c) A outer s H E) (defBody st) t ∧ t { nx := fun _ H' => Q .non H', rt := Q } (L2.start N vs) H) : FnOk P w K mg base (L2.CX P w) (k + 1) f fd ps sp := by
  obtain ⟨oc, od, kV, doc, pm, an, ct, osl, e, lk, hcd⟩ := F.ex
  subst e
  exact fn_of lk hcd S len hbody
/-- the tables of code of the program's defs that make lambdas -/
structure Tb (base : Heap) (mg : Str → Option Value) (T : List (Addr × Str)) (x : Str) (c : Addr) : Prop where
  ex : ∃ P0, TabB base mg c P0 ∧ (P0, lamQ x) ∈ T ∧ ∀ p ∈ T, p.1 = P0 → p.2 = lamQ x
def spM (K : PySem.W.Frag) (T : List (Addr × Str)) (CB CR : Addr) (k c : Nat) : Sp := fun vs H Q E => ∃ (a g : Addr) (f : Krdk.Answer) (given : List Int), vs = [.ref a, .ref g] ∧ WF f ∧ SqL K H a (sv f) ∧ SqL K H g (given.map V.int) ∧ Pre k given ∧ Tabs T H ∧
  (∀ f', mk f c given = .ok f' → NX T H (sv f') Q) ∧ (∀ e, mk f c given = .error e → ∀ H', Same H H' → E (.ref (erC CB CR e)) none H')
theorem sv_of (n : Nat) (r : Nat → Bool) : ((List.range (2 ^ n)).map fun x => V.int (bi (r x))) = sv (Krdk.of n r) := by
  unfold sv Krdk.of Krdk.words
  rw [List.map_map] <;> rfl
theorem NX.of {T : List (Addr × Str)} {H : Hp} {l : List V} {Q : VK} (hT : Tabs T H) (k : NX T H l Q) : NL H l Q := fun H' p s hp h => k H' p (ExtN.of s) (hT.ext s) (fun o ho => by rw [hp] at ho; cases ho) h
theorem NX.later {T : List (Addr × Str)} {H H1 : Hp} {l : List V} {Q : VK} (s : Same H H1) (k : NX T H l Q) : NX T H1 l Q := fun H' p e t n h => k H' p (same_extN s e) t (fun o ho => n o (s _ _ ho)) h
abbrev sTold : Stmt := top 48
abbrev sWo : Stmt := top 49
abbrev sLeast : Stmt := top 50
abbrev sOdd : Stmt := top 51
abbrev sBit : Stmt := top 52
abbrev sNot : Stmt := top 53
abbrev sTurn : Stmt := top 54
abbrev sSet : Stmt := top 55
theorem scTold : FnScope ["says", "given", "x"] ["says", "given"] (defScope sTold) := ⟨rfl, rfl, rfl, by decide +kernel, rfl, by decide +kernel, by decide +kernel⟩
theorem scWo : FnScope ["x", "weights", "i", "weight"] ["x", "weights"] (defScope sWo) := ⟨rfl, rfl, rfl, by decide +kernel, rfl, by decide +kernel, by decide +kernel⟩
theorem scLeast : FnScope ["says", "given", "threshold", "weights"] ["says", "given"] (defScope sLeast) := ⟨rfl, rfl, rfl, by decide +kernel, rfl, by decide +kernel, by decide +kernel⟩
theorem scOdd : FnScope ["says", "given", "s"] ["says", "given"] (defScope sOdd) := ⟨rfl, rfl, rfl, by decide +kernel, rfl, by decide +kernel, by decide +kernel⟩
theorem scBit : FnScope ["says", "given", "i"] ["says", "given"] (defScope sBit) := ⟨rfl, rfl, rfl, by decide +kernel, rfl, by decide +kernel, by decide +kernel⟩
theorem scNot : FnScope ["says", "given"] ["says", "given"] (defScope sNot) := ⟨rfl, rfl, rfl, by decide +kernel, rfl, by decide +kernel, by decide +kernel⟩
theorem scTurn : FnScope ["says", "given", "i"] ["says", "given"] (defScope sTurn) := ⟨rfl, rfl, rfl, by decide +kernel, rfl, by decide +kernel, by decide +kernel⟩
theorem scSet : FnScope ["says", "given", "x", "b", "other"] ["says", "given"] (defScope sSet) := ⟨rfl, rfl, rfl, by decide +kernel, rfl, by decide +kernel, by decide +kernel⟩
section
variable {P : Program} {w : World} {K : PySem.W.Frag} {mg : Str → Option Value} {base : Heap} {CB CR : Addr} {T : List (Addr × Str)}
theorem ok_bit {f c : Addr} {fd : FuncData} (F : FunC K "bit" "bit" sBit f fd c) (Y : Hs P w K mg base CX0 5 "yes_where" (spYw P w K mg base 4)) (TB : Tb base mg T "bit" c) (Gb : Hs P w K mg base (L2.CX P w) 2 "check_bit" (spCb K CB)) (Gh : Hs P w K mg base CX0 1 "has_bit" spHb) :
    FnOk P w K mg base (L2.CX P w) 6 f fd ["says", "given"] (spM K T CB CR 1 4) := by
  obtain ⟨P0, tb, hm, hu⟩ := TB.ex
  refine F.okX scBit (fun vs H Q E h => ?_) (fun A outer s H vs Q E hr h => ⟨_, pss_cons (ps_set (i := 2) scBit.nd rfl (.inr rfl) (pe_ix ix_list (pv 1) pe_int (fun _ _ => rfl)))
    (pss_cons (ps_expr (pe_hx (E := E) Gb hr (by decide) (passes_call (takes_of rfl rfl rfl rfl) (fun _ _ _ _ h => h)) (pa_cons (pv 0) (pa_cons (pv 2) pa_nil))))
    (pss_one (ps_ret (pe_where (N := ["x", "i"]) (fr := ["i"]) (js := [2]) (kB := 3) Y hr (by decide) tb rfl hm hu (fun _ => rfl) (nscope_by (by decide +kernel)) (by show ndefB (defScope sBit) _ _ = true; decide +kernel) rfl rfl (fun _ _ _ _ _ _ => rfl)
      (fun q cl c' f A outer s H hr2 => by exact (pe_h Gh hr2 (by decide) (pa_cons (pv 0) (pa_cons (pv 1) pa_nil)))) rfl (.inl rfl) rfl)))), ?_⟩)
  · obtain ⟨a, g, f, given, rfl, _⟩ := h
    rfl
  · obtain ⟨a, g, f, given, rfl, hf, hS, hG, hP, hT, kO, kE⟩ := h
    refine ⟨_, rfl, g, _, _, _, rfl, rfl, hG, at0 hP, _, rfl, _, rfl, a, f, hd given, rfl, hf, hS, fun c => kE (-2) (if_pos c) H (Same.refl H), fun c => ?_⟩
    refine ⟨a, _, 2 ^ f.n, fun x => x.testBit (hd given), rfl, hS, sv_len hf, pow_le32 hf.lt, hT, fun H2 x Qb hq hx sv => ?_, ?_⟩
    · exact ⟨_, rfl, _, rfl, x, hd given, rfl, sv _ (Same.refl _)⟩
    · rw [sv_of]
      exact kO _ (if_neg (by omega))
end
end Bw
namespace Bw
open PySem PySem.Spec PyProof.Rows L2 LamX NdefX
theorem at1 {k : Nat} {g : List Int} (h : Pre (k + 2) g) : atI (g.map V.int) 1 = some (.int (hd g.tail)) := by
  have hn := h.need
  match g, h with
  | z :: y :: r, h =>
    have hy := h.pos y (by simp)
    have e : ((z :: y :: r).map V.int)[1]? = some (.int (hd (z :: y :: r).tail)) := by
      show some (V.int y) = some (V.int ((y.toNat : Nat) : Int))
      rw [Int.toNat_of_nonneg hy]
    exact atI_nat (j := 1) e
  | [_], h => simp at hn
  | [], h => simp at hn
theorem slot_some {l : L2.St} {j : Nat} {v : V} (h : l[j]? = some (some v)) : slotAt l j = some v := slotAt_of h
section
variable {P : Program} {w : World} {K : PySem.W.Frag} {mg : Str → Option Value} {base : Heap} {CB CR : Addr} {T : List (Addr × Str)}
theorem ok_odd {f c : Addr} {fd : FuncData} (F : FunC K "odd" "odd" sOdd f fd c) (Y : Hs P w K mg base CX0 5 "yes_where" (spYw P w K mg base 4)) (TB : Tb base mg T "odd" c) (Gw : Hs P w K mg base (L2.CX P w) 2 "check_word" (spCw K CR)) (Gm : Hs P w K mg base CX0 2 "meets_oddly" spMo) :
    FnOk P w K mg base (L2.CX P w) 6 f fd ["says", "given"] (spM K T CB CR 1 3) := by
  obtain ⟨P0, tb, hm, hu⟩ := TB.ex
  refine F.okX scOdd (fun vs H Q E h => ?_) (fun A outer s H vs Q E hr h => ⟨_, pss_cons (ps_set (i := 2) scOdd.nd rfl (.inr rfl) (pe_ix ix_list (pv 1) pe_int (fun _ _ => rfl)))
    (pss_cons (ps_expr (pe_hx (E := E) Gw hr (by decide) (passes_call (takes_of rfl rfl rfl rfl) (fun _ _ _ _ h => h)) (pa_cons (pv 0) (pa_cons (pv 2) pa_nil))))
    (pss_one (ps_ret (pe_where (N := ["x", "s"]) (fr := ["s"]) (js := [2]) (kB := 3) Y hr (by decide) tb rfl hm hu (fun _ => rfl) (nscope_by (by decide +kernel)) (by show ndefB (defScope sOdd) _ _ = true; decide +kernel) rfl rfl (fun _ _ _ _ _ _ => rfl)
      (fun q cl c' f A outer s H hr2 => by exact (pe_h Gm hr2 (by decide) (pa_cons (pv 0) (pa_cons (pv 1) pa_nil)))) rfl (.inl rfl) rfl)))), ?_⟩)
  · obtain ⟨a, g, f, given, rfl, _⟩ := h
    rfl
  · obtain ⟨a, g, f, given, rfl, hf, hS, hG, hP, hT, kO, kE⟩ := h
    have hp := pow_le32 hf.lt
    refine ⟨_, rfl, g, _, _, _, rfl, rfl, hG, at0 hP, _, rfl, _, rfl, a, f, hd given, rfl, hf, hS, fun c => kE (-22) (if_pos c) H (Same.refl H), fun c => ?_⟩
    refine ⟨a, _, 2 ^ f.n, fun x => pop (x &&& hd given) % 2 == 1, rfl, hS, sv_len hf, hp, hT, fun H2 x Qb hq hx sv => ?_, ?_⟩
    · exact ⟨_, rfl, _, rfl, x, hd given, rfl, by omega, sv _ (Same.refl _)⟩
    · rw [sv_of]
      exact kO _ (if_neg (by omega))
theorem ok_not {f c : Addr} {fd : FuncData} (F : FunC K "not_of" "not_of" sNot f fd c) (Y : Hs P w K mg base CX0 5 "yes_where" (spYw P w K mg base 4)) (TB : Tb base mg T "not_of" c) :
    FnOk P w K mg base (L2.CX P w) 6 f fd ["says", "given"] (spM K T CB CR 0 5) := by
  obtain ⟨P0, tb, hm, hu⟩ := TB.ex
  refine F.okX scNot (fun vs H Q E h => ?_) (fun A outer s H vs Q E hr h => ⟨_, pss_one (ps_ret (pe_where (N := ["x", "says"]) (fr := ["says"]) (js := [0]) (kB := 3) (tb := tOp rEq (tOp (rIxL K) (tVar 1) (tVar 0)) (tC (.int 0))) Y hr (by decide) tb rfl hm hu (fun _ => rfl) (nscope_by (by decide +kernel)) (by show ndefB (defScope sNot) _ _ = true; decide +kernel) rfl rfl (fun _ _ _ _ _ _ => rfl)
      (fun q cl c' f A outer s H hr2 => by exact (pe_cmpR op_eq (pe_ix ix_list (pv 1) (pv 0) (fun _ _ => rfl)) pe_int (nomark _))) rfl (.inr (.inl rfl)) rfl)), ?_⟩)
  · obtain ⟨a, g, f, given, rfl, _⟩ := h
    rfl
  · obtain ⟨a, g, f, given, rfl, hf, hS, hG, hP, hT, kO, kE⟩ := h
    refine ⟨a, _, 2 ^ f.n, fun x => !f.at_ x, rfl, hS, sv_len hf, pow_le32 hf.lt, hT, fun H2 x Qb hq hx sv => ?_, ?_⟩
    · refine ⟨_, rfl, _, rfl, a, _, _, V.int (bi (f.at_ x)), rfl, rfl, hq _ _ hS, atI_nat (sv_at hf hx), rfl, ?_⟩
      show Qb (.bl (decide (V.int (bi (f.at_ x)) = V.int 0))) H2
      rw [bi_zero]
      exact sv _ (Same.refl _)
    · rw [sv_of]
      exact kO _ rfl
theorem ok_turn {f c : Addr} {fd : FuncData} (F : FunC K "turn" "turn" sTurn f fd c) (Y : Hs P w K mg base CX0 5 "yes_where" (spYw P w K mg base 4)) (TB : Tb base mg T "turn" c) (Gb : Hs P w K mg base (L2.CX P w) 2 "check_bit" (spCb K CB)) (Gt : Hs P w K mg base CX0 1 "turned" spTu) :
    FnOk P w K mg base (L2.CX P w) 6 f fd ["says", "given"] (spM K T CB CR 1 6) := by
  obtain ⟨P0, tb, hm, hu⟩ := TB.ex
  refine F.okX scTurn (fun vs H Q E h => ?_) (fun A outer s H vs Q E hr h => ⟨_, pss_cons (ps_set (i := 2) scTurn.nd rfl (.inr rfl) (pe_ix ix_list (pv 1) pe_int (fun _ _ => rfl)))
    (pss_cons (ps_expr (pe_hx (E := E) Gb hr (by decide) (passes_call (takes_of rfl rfl rfl rfl) (fun _ _ _ _ h => h)) (pa_cons (pv 0) (pa_cons (pv 2) pa_nil))))
    (pss_one (ps_ret (pe_where (N := ["x", "says", "i"]) (fr := ["says", "i"]) (js := [0, 2]) (kB := 3) (tb := tOp rEq (tOp (rIxL K) (tVar 1) (tCall spTu [] E0 (tCons (tVar 0) (tCons (tVar 2) tNil)))) (tC (.int 1))) Y hr (by decide) tb rfl hm hu (fun _ => rfl) (nscope_by (by decide +kernel)) (by show ndefB (defScope sTurn) _ _ = true; decide +kernel) rfl rfl (fun _ _ _ _ _ _ => rfl)
      (fun q cl c' f A outer s H hr2 => by exact (pe_cmpR op_eq (pe_ix ix_list (pv 1) (pe_h Gt hr2 (by decide) (pa_cons (pv 0) (pa_cons (pv 2) pa_nil))) (fun _ _ => rfl)) pe_int (nomark _))) rfl (.inr (.inl rfl)) rfl)))), ?_⟩)
  · obtain ⟨a, g, f, given, rfl, _⟩ := h
    rfl
  · obtain ⟨a, g, f, given, rfl, hf, hS, hG, hP, hT, kO, kE⟩ := h
    have hn := hf.n5
    refine ⟨_, rfl, g, _, _, _, rfl, rfl, hG, at0 hP, _, rfl, _, rfl, a, f, hd given, rfl, hf, hS, fun c => kE (-2) (if_pos c) H (Same.refl H), fun c => ?_⟩
    refine ⟨a, _, 2 ^ f.n, fun x => f.at_ (x ^^^ (2 ^ hd given)), rfl, hS, sv_len hf, pow_le32 hf.lt, hT, fun H2 x Qb hq hx sv => ?_, ?_⟩
    · refine ⟨_, rfl, _, rfl, _, rfl, x, hd given, rfl, by omega, a, _, _, V.int (bi (f.at_ (x ^^^ (2 ^ hd given)))), rfl, rfl, hq _ _ hS, atI_nat (sv_at hf (xor_lt hx c)), rfl, ?_⟩
      show Qb (.bl (decide (V.int (bi (f.at_ (x ^^^ (2 ^ hd given)))) = V.int 1))) H2
      rw [bi_one]
      exact sv _ (Same.refl _)
    · rw [sv_of]
      exact kO _ (if_neg (by omega))
theorem ok_set (B : Bn mg) {f : Addr} {fd : FuncData} (F : Fun K "set_word" "set_word" sSet f fd) (R : Er K mg "NotRight" CR) (Gw : Hs P w K mg base (L2.CX P w) 2 "check_word" (spCw K CR)) :
    FnOk P w K mg base (L2.CX P w) 3 f fd ["says", "given"] (spM K T CB CR 2 7) := by
  refine F.okX scSet (fun vs H Q E h => ?_) (fun cdv A outer s H vs Q E hr h => ⟨_, pss_cons (ps_set (i := 2) scSet.nd rfl (.inl rfl) (pe_ix ix_list (pv 1) pe_int (fun _ _ => rfl)))
    (pss_cons (ps_set (i := 3) scSet.nd rfl (.inl rfl) (pe_ix ix_list (pv 1) pe_int (fun _ _ => rfl)))
    (pss_cons (ps_expr (pe_hx (E := E) Gw hr (by decide) (passes_call (takes_of rfl rfl rfl rfl) (fun _ _ _ _ h => h)) (pa_cons (pv 0) (pa_cons (pv 2) pa_nil))))
    (pss_cons (ps_if (pt_cmpR op_gt (pv 3) pe_int (nomark _)) (pss_one (ps_rz rfl R (takes_of rfl rfl rfl rfl))) pss_nil)
    (pss_cons (ps_set (i := 4) scSet.nd rfl (.inl rfl) (pe_callTy call_list_of (by rfl) B.list (by decide +kernel) (pa_cons (pv 0) pa_nil)))
    (pss_cons (ps_asg (pv 3) (pg_sub (pv 4) (pv 2) set_list))
    (pss_one (ps_ret (pv 4)))))))), ?_⟩)
  · obtain ⟨a, g, f, given, rfl, _⟩ := h
    rfl
  · obtain ⟨a, g, f, given, rfl, hf, hS, hG, hP, hT, kO, kE⟩ := h
    refine ⟨_, rfl, g, _, _, _, rfl, rfl, hG, at0 hP, _, rfl, g, _, _, _, rfl, rfl, hG, at1 (k := 0) hP, _, rfl, _, rfl, a, f, hd given, rfl, hf, hS, fun c => kE (-22) (if_pos (.inl c)) H (Same.refl H), fun c => ?_⟩
    refine ⟨_, rfl, _, _, rfl, rfl, _, rfl, ?_⟩
    by_cases cb : 1 < hd given.tail
    · exact cond_t (decide_eq_true (by omega)) (kE (-22) (if_pos (.inr cb)) H (Same.refl H))
    · refine cond_f (decide_eq_false (by omega)) ⟨_, rfl, a, _, rfl, .inl hS, fun l hl => ?_⟩
      refine ⟨_, rfl, _, rfl, _, rfl, l, _, ((hd given : Nat) : Int), hd given, rfl, rfl, upd_same, ?_, ?_⟩
      · unfold ixN
        rw [if_pos (by omega), if_pos (by rw [sv_len hf]; omega), Int.toNat_natCast]
      · refine ⟨_, rfl, ?_⟩
        have k := kO _ (if_neg (by omega))
        have e : (sv f).set (hd given) (V.int ((hd given.tail : Nat) : Int)) = sv ⟨f.n, f.t.set (hd given) (hd given.tail == 1)⟩ := by
          unfold sv
          rw [List.map_set]
          congr 1
          have : hd given.tail = 0 ∨ hd given.tail = 1 := by omega
          rcases this with e | e <;> rw [e] <;> rfl
        rw [upd_upd, e]
        exact (k.of hT).to (Same.refl H) hl
end
end Bw
namespace Bw
open PySem PySem.Spec PyProof.Rows L2 LamX NdefX
theorem in_int (z : Nat) : ∀ (g : List Int), (∀ y ∈ g, 0 ≤ y) → inV (.int z) (g.map V.int) = (g.map Int.toNat).contains z
  | [], _ => rfl
  | y :: g, h => by
    have ih := in_int z g fun y hy => h y (List.mem_cons_of_mem _ hy)
    have hy := h y List.mem_cons_self
    show (eqV (.int y) (.int z) || (g.map V.int).any fun y => eqV y (.int z)) = _
    have ih : ((g.map V.int).any fun y => eqV y (.int z)) = (g.map Int.toNat).contains z := ih
    rw [ih, List.map_cons, List.contains_cons]
    congr 1
    show (y == (z : Int)) = (z == y.toNat)
    by_cases e : y = (z : Int)
    · subst e
      simp
    · rw [beq_eq_false_iff_ne.mpr e, beq_eq_false_iff_ne.mpr (fun q => e (by omega))]
theorem flat_ints (g : List Int) : (g.map V.int).all flatV = true := by
  rw [List.all_eq_true]
  intro x hx
  obtain ⟨i, _, e⟩ := List.mem_map.mp hx
  rw [← e] <;> rfl
def wsum (ws : List Int) (x : Nat) : Int := (((List.range ws.length).filter fun i => x.testBit i).map fun i => ws.getD i 0).sum
theorem weigh_is {ws : List Int} (h : ∀ z ∈ ws, 0 ≤ z) (x : Nat) : (Krdk.weigh ws.length (ws.map Int.toNat) x : Int) = wsum ws x := by
  unfold Krdk.weigh wsum
  have e : ∀ (l : List Nat) (t : Nat), ((l.foldl (fun t i => t + (ws.map Int.toNat).getD i 0) t : Nat) : Int) = (t : Int) + (l.map fun i => ws.getD i 0).sum := by
    intro l
    induction l with
    | nil => intro t; simp
    | cons i l ih =>
      intro t
      rw [List.foldl_cons, ih, List.map_cons, List.sum_cons]
      have e2 : (((ws.map Int.toNat).getD i 0 : Nat) : Int) = ws.getD i 0 := by
        rw [List.getD_eq_getElem?_getD, List.getD_eq_getElem?_getD, List.getElem?_map]
        cases q : ws[i]? with
        | none => rfl
        | some z =>
          have := h z (List.mem_of_getElem? q)
          show ((z.toNat : Nat) : Int) = z
          omega
      omega
  rw [e]
  simp
theorem cut_tail (g : List Int) (h : 1 ≤ g.length) : cutV (g.map V.int) (some 1) none = g.tail.map V.int := by
  unfold cutV
  have e1 : HT.sIx (g.map V.int).length 0 (some 1) = 1 := (HT.sIx_nat (g.map V.int).length 0 1).trans (by rw [List.length_map]; omega)
  rw [e1, HT.sIx_none, List.drop_one, List.take_of_length_le (by rw [List.length_tail]; exact Nat.le_refl _), List.map_tail]
def spWo (K : PySem.W.Frag) : Sp := fun vs H Q _ => ∃ (x : Nat) (a : Addr) (ws : List Int), vs = [.int x, .ref a] ∧ SqL K H a (ws.map V.int) ∧ ws.length ≤ 300 ∧ SV H (.int (wsum ws x)) Q
section
variable {P : Program} {w : World} {K : PySem.W.Frag} {mg : Str → Option Value} {base : Heap} {CB CR : Addr} {T : List (Addr × Str)}
theorem ok_wo (B : Bn mg) {f : Addr} {fd : FuncData} (F : Fun K "weight_of" "weight_of" sWo f fd) (Gh : Hs P w K mg base CX0 1 "has_bit" spHb) : FnOk P w K mg base CX0 2 f fd ["x", "weights"] (spWo K) := by
  refine F.ok scWo (fun vs H Q E h => ?_) (fun cdv A outer s H vs Q E hr h => ⟨_, pss_one (ps_ret (pe_callB (cr_sum rfl) (by rfl) B.sum (by decide +kernel) (pa_cons (pe_lc (own := [("i", 2), ("weight", 3)]) (g := gTup K 2 (gCons (gName 2) (gCons (gName 3) gNil))) (tt := tB (tCall spHb [] E0 (tCons (tVar 0) (tCons (tVar 2) tNil)))) (by rfl) scWo.nd (pi_enum (by rfl) B.enumerate (pa_cons (pv 1) pa_nil))
      (blkOk_by (N := ["x", "weights", "i", "weight"]) (sc := defScope sWo) (by decide +kernel)) (fun _ _ _ _ _ => pg_tup rfl (pgs_cons (pg_name (i := 2) scWo.nd rfl (.inl rfl)) (pgs_cons (pg_name (i := 3) scWo.nd rfl (.inl rfl)) pgs_nil)))
      (fun _ _ _ _ _ => pts_one (pt_val (pe_h Gh hr (by decide) (pa_cons (pv 0) (pa_cons (pv 2) pa_nil))))) (fun _ _ _ _ _ => pv 3)) pa_nil))), ?_⟩)
  · obtain ⟨x, a, ws, rfl, _⟩ := h
    rfl
  · obtain ⟨x, a, ws, rfl, hS, hl, k⟩ := h
    refine ⟨_, rfl, a, _, rfl, hS, fun D new => ?_⟩
    refine lc_en (K := K) (a := a) (xs := ws.map V.int) (fun i H' => Gr H D (((List.range i).filter fun i => x.testBit i).map fun i => V.int (ws.getD i 0)) H') (Gr.start new) (fun i H' g => g.1.seq hS) (fun i v T H' hi hT g => ?_) (fun H' g => ?_)
    · have hlt : i < ws.length := by
        have h2 := (List.getElem?_eq_some_iff.mp hi).1
        simpa using h2
      have hv : v = V.int (ws.getD i 0) := by
        rw [List.getElem?_map, List.getElem?_eq_getElem hlt] at hi
        rw [List.getD_eq_getElem?_getD, List.getElem?_eq_getElem hlt]
        exact (Option.some.inj hi).symm
      subst hv
      have g2 := g.to (Same.upd (o := .tup [.int i, .int (ws.getD i 0)]) hT)
      refine ⟨T, _, rfl, SqT.of upd_same, rfl, _, _, rfl, _, _, rfl, rfl, rfl, _, rfl, _, rfl, x, i, rfl, _, rfl, ?_⟩
      cases e : x.testBit i with
      | true => exact cond_t rfl ⟨_, rfl, g2.put new (flt_len (by omega)) (flt_yes (p := fun i => x.testBit i) e)⟩
      | false =>
        refine cond_f rfl ?_
        show Gr _ _ _ _
        rw [flt_no (p := fun i => x.testBit i) e]
        exact g2
    · rw [List.length_map] at g
      refine ⟨D, ((List.range ws.length).filter fun i => x.testBit i).map fun i => ws.getD i 0, rfl, ?_, k H' g.1⟩
      rw [List.map_map]
      exact SqL.of g.2
theorem ok_told (B : Bn mg) {f c : Addr} {fd : FuncData} {t32 : Tok} (F : FunC K "told" "told" sTold f fd c) (Y : Hs P w K mg base CX0 5 "yes_where" (spYw P w K mg base 4)) (TB : Tb base mg T "told" c) (R : Er K mg "NotRight" CR) (m32 : mg "MOST_TOLD" = some (.int 32 t32)) (Gw : Hs P w K mg base (L2.CX P w) 2 "check_word" (spCw K CR)) :
    FnOk P w K mg base (L2.CX P w) 6 f fd ["says", "given"] (spM K T CB CR 0 1) := by
  obtain ⟨P0, tb, hm, hu⟩ := TB.ex
  refine F.okX scTold (fun vs H Q E h => ?_) (fun A outer s H vs Q E hr h => ⟨_, pss_cons (ps_if (pt_cmpR op_gt (pe_callB call_len_seq (by rfl) B.len PySem.boot_len (pa_cons (pv 1) pa_nil)) (pe_glob (v := .int 32) rfl m32 ⟨_, rfl⟩) (nomark _)) (pss_one (ps_rz rfl R (takes_of rfl rfl rfl rfl))) pss_nil)
    (pss_cons (ps_for (passes_of rfl) rfl (pi_list (pv 1)) (pg_name (i := 2) scTold.nd rfl (.inl rfl)) (pss_one (ps_expr (pe_hx (E := E) Gw hr (by decide) (passes_call (takes_of rfl rfl rfl rfl) (fun _ _ _ _ h => h)) (pa_cons (pv 0) (pa_cons (pv 2) pa_nil))))))
    (pss_one (ps_ret (pe_where (N := ["x", "given"]) (fr := ["given"]) (js := [1]) (kB := 3) (tb := tOp (rIn K false) (tVar 0) (tVar 1)) Y hr (by decide) tb rfl hm hu (fun _ => rfl) (nscope_by (by decide +kernel)) (by show ndefB (defScope sTold) _ _ = true; decide +kernel) rfl rfl (fun _ _ _ _ _ _ => rfl)
      (fun q cl c' f A outer s H hr2 => by exact (pe_cmpR op_in_seq (pv 0) (pv 1) rfl)) rfl (.inl rfl) rfl)))), ?_⟩)
  · obtain ⟨a, g, f, given, rfl, _⟩ := h
    rfl
  · obtain ⟨a, g, f, given, rfl, hf, hS, hG, hP, hT, kO, kE⟩ := h
    refine ⟨_, rfl, g, _, rfl, .inl hG, _, _, rfl, rfl, _, rfl, ?_⟩
    rw [List.length_map]
    by_cases c32 : 32 < given.length
    · exact cond_t (decide_eq_true (by omega)) (kE (-22) (if_pos (.inl c32)) H (Same.refl H))
    · refine cond_f (decide_eq_false (by omega)) ?_
      refine ⟨_, rfl, g, rfl, ⟨_, hG⟩, for_list (K := K) (a := g) (xs := given.map V.int) (fun i σ H' => (∃ v : Option V, σ = [some (.ref a), some (.ref g), v]) ∧ H' = H ∧ ∀ z ∈ given.take i, z.toNat < 2 ^ f.n)
        ⟨⟨none, rfl⟩, rfl, by simp⟩ (fun i σ H' _ z => by rw [z.2.1]; exact hG) (fun i x σ H' hi z => ?_) (fun σ H' z => ?_)⟩
      · obtain ⟨⟨v, rfl⟩, rfl, hz⟩ := z
        have hlt : i < given.length := by
          have h2 := (List.getElem?_eq_some_iff.mp hi).1
          simpa using h2
        have hx : x = V.int ((given[i].toNat : Nat) : Int) := by
          rw [List.getElem?_map, List.getElem?_eq_getElem hlt] at hi
          have := hP.pos given[i] (List.getElem_mem hlt)
          rw [Int.toNat_of_nonneg this]
          exact (Option.some.inj hi).symm
        subst hx
        refine ⟨_, rfl, _, rfl, a, f, given[i].toNat, rfl, hf, hS, fun c => kE (-22) (if_pos (.inr fun q => absurd (q _ (List.getElem_mem hlt)) (by omega))) _ (Same.refl _), fun c => ⟨⟨_, rfl⟩, rfl, fun y hy => ?_⟩⟩
        rw [List.take_succ_eq_append_getElem hlt] at hy
        rcases List.mem_append.mp hy with hy | hy
        · exact hz y hy
        · rw [List.mem_singleton.mp hy]
          exact c
      · obtain ⟨⟨v, rfl⟩, rfl, hz⟩ := z
        rw [List.length_map, List.take_length] at hz
        refine ⟨a, _, 2 ^ f.n, fun x => (given.map Int.toNat).contains x, rfl, hS, sv_len hf, pow_le32 hf.lt, hT, fun H2 x Qb hq hx sv => ?_, ?_⟩
        · refine ⟨_, rfl, _, rfl, g, _, rfl, .inl (hq _ _ hG), rfl, flat_ints given, ?_⟩
          show Qb (.bl (inV (.int x) (given.map V.int))) H2
          rw [in_int x given hP.pos]
          exact sv _ (Same.refl _)
        · rw [sv_of]
          exact kO _ (if_neg (fun q => q.elim c32 fun q => q hz))
theorem ok_least (B : Bn mg) {f c : Addr} {fd : FuncData} {t9 : Tok} (F : FunC K "least" "least" sLeast f fd c) (Y : Hs P w K mg base CX0 5 "yes_where" (spYw P w K mg base 4)) (TB : Tb base mg T "least" c) (R : Er K mg "NotRight" CR) (m9 : mg "LARGEST_WEIGHT" = some (.int 9 t9)) (Gb : Hs P w K mg base CX0 1 "bit_count" (spBc K)) (Gw : Hs P w K mg base CX0 2 "weight_of" (spWo K)) :
    FnOk P w K mg base (L2.CX P w) 6 f fd ["says", "given"] (spM K T CB CR 1 2) := by
  obtain ⟨P0, tb, hm, hu⟩ := TB.ex
  refine F.okX scLeast (fun vs H Q E h => ?_) (fun A outer s H vs Q E hr h => ⟨_, pss_cons (ps_set (i := 2) scLeast.nd rfl (.inr rfl) (pe_ix ix_list (pv 1) pe_int (fun _ _ => rfl)))
    (pss_cons (ps_set (i := 3) scLeast.nd rfl (.inr rfl) (pe_slice sl_list (pv 1) (po_some pe_int) po_none))
    (pss_cons (ps_if (PW.pt (pw_or (pt_cmpR op_ne (pe_callB call_len_seq (by rfl) B.len PySem.boot_len (pa_cons (pv 3) pa_nil)) (pe_h Gb hr (by decide) (pa_cons (pv 0) pa_nil)) (nomark _)) (pw_or1 (pt_cmpR op_gt (pe_callB (cr_max rfl) (by rfl) B.max (by decide +kernel) (pa_cons (pv 3) pa_nil)) (pe_glob (v := .int 9) rfl m9 ⟨_, rfl⟩) (nomark _)))))
      (pss_one (ps_rz rfl R (takes_of rfl rfl rfl rfl))) pss_nil)
    (pss_one (ps_ret (pe_where (N := ["x", "weights", "threshold"]) (fr := ["weights", "threshold"]) (js := [3, 2]) (kB := 3) (tb := tOp (rI0 fun i j => .bl (decide (j ≤ i))) (tCall (spWo K) [] E0 (tCons (tVar 0) (tCons (tVar 1) tNil))) (tVar 2)) Y hr (by decide) tb rfl hm hu (fun _ => rfl) (nscope_by (by decide +kernel)) (by show ndefB (defScope sLeast) _ _ = true; decide +kernel) rfl rfl (fun _ _ _ _ _ _ => rfl)
      (fun q cl c' f A outer s H hr2 => by exact (pe_cmpR op_ge (pe_h Gw hr2 (by decide) (pa_cons (pv 0) (pa_cons (pv 1) pa_nil))) (pv 2) (nomark _))) rfl (.inl rfl) rfl))))), ?_⟩)
  · obtain ⟨a, g, f, given, rfl, _⟩ := h
    rfl
  · obtain ⟨a, g, f, given, rfl, hf, hS, hG, hP, hT, kO, kE⟩ := h
    have h1 := hf.n1
    refine ⟨_, rfl, g, _, _, _, rfl, rfl, hG, at0 hP, _, rfl, _, rfl, g, _, rfl, hG, fun p hp => ?_⟩
    rw [cut_tail given hP.need]
    have s1 : Same H (upd H p (.lst (given.tail.map V.int))) := Same.upd hp
    have hW : SqL K (upd H p (.lst (given.tail.map V.int))) p (given.tail.map V.int) := SqL.of upd_same
    refine ⟨_, rfl, p, _, rfl, .inl hW, _, rfl, a, _, f.n, rfl, s1.seq hS, hf.n5, sv_len hf, rfl, _, rfl, ?_⟩
    rw [List.length_map]
    have ne : (!decide (V.int ((given.tail.length : Nat) : Int) = V.int ((f.n : Nat) : Int))) = decide (given.tail.length ≠ f.n) := by
      by_cases e : given.tail.length = f.n
      · rw [e]
        simp
      · rw [decide_eq_true e, decide_eq_false fun q => e (by have := V.int.inj q; omega)] <;> rfl
    rw [ne]
    by_cases cl : given.tail.length ≠ f.n
    · exact cond_t (decide_eq_true cl) (cond_t rfl (kE (-22) (if_pos (.inl cl)) _ s1))
    · refine cond_f (decide_eq_false cl) ?_
      refine ⟨_, rfl, p, given.tail, rfl, hW, by omega, fun m hm1 hm2 => ⟨_, _, rfl, rfl, _, rfl, ?_⟩⟩
      have hpos : ∀ z ∈ given.tail, 0 ≤ z := fun z hz => hP.pos z (List.mem_of_mem_tail hz)
      by_cases c9 : 9 < m
      · exact cond_t (decide_eq_true c9) (kE (-22) (if_pos (.inr fun q => absurd (q m hm1) (by omega))) _ s1)
      · refine cond_f (decide_eq_false c9) ?_
        have ok9 : ∀ z ∈ given.tail, z.toNat ≤ 9 := fun z hz => by
          have := hm2 z hz
          omega
        refine ⟨a, _, 2 ^ f.n, fun x => decide (hd given ≤ Krdk.weigh f.n (given.tail.map Int.toNat) x), rfl, s1.seq hS, sv_len hf, pow_le32 hf.lt, hT.ext s1, fun H2 x Qb hq hx sv => ?_, ?_⟩
        · refine ⟨_, rfl, _, rfl, x, p, given.tail, rfl, hq _ _ hW, by have := hP.most; rw [List.length_tail]; omega, fun H3 s3 => ⟨_, rfl, _, _, rfl, rfl, ?_⟩⟩
          have e : decide (((hd given : Nat) : Int) ≤ wsum given.tail x) = decide (hd given ≤ Krdk.weigh f.n (given.tail.map Int.toNat) x) := by
            have e2 : f.n = given.tail.length := by omega
            rw [e2, ← weigh_is hpos]
            exact decide_eq_decide.mpr (by omega)
          show Qb (.bl (decide (((hd given : Nat) : Int) ≤ wsum given.tail x))) H3
          rw [e]
          exact sv _ s3
        · rw [sv_of]
          exact (kO _ (if_neg (fun q => q.elim cl fun q => q ok9))).later s1
end
end Bw
namespace Bw
open PySem PySem.Spec PyProof.Rows L2 LamX NdefX
/-! ### d[name](e, ..), d[name] one of several defs -/
def tDcall (P : Program) (w : World) (K : PySem.W.Frag) (mg : Str → Option Value) (base : Heap) (CX : CXT) (k : Nat) (tf : TE) (E : XK) (t : TA) : TE := fun σ H Q => tf σ H fun v H1 => ∃ f sp, v = .ref f ∧ PySem.W.keepIn K (.ref f) = true ∧ FnR P w K mg base CX k f sp ∧ t σ H1 fun vs H2 => sp vs H2 Q E
section
variable {X : Cx} {CX : CXT} {k j : Nat} {E : XK} {func e : Expr} {es : List Expr} {tf : TE} {t : TA} {pos : Pos}
theorem pe_dcall (hf : PE X func tf) (hr : Room j X.A) (hk : k ≤ j) (hx : Passes CX X E) (ha : PA X (e :: es) t)
    (he : eval (.Call func (e :: es) [] pos) X.env = (do callWith pos (← eval func X.env) [] (backTo pos (starEach (e :: es) X.env)) (backToKw pos (keywordEach [] X.env))) := by rfl)
    (hs : starEach (e :: es) X.env = (false, eval e X.env) :: starEach es X.env := by rfl) (hpl : (backTo pos (starEach es X.env)).any (·.1) = false := by rfl) :
    PE X (.Call func (e :: es) [] pos) (tDcall X.prog X.w X.K X.mg X.base CX k tf E t) := by
  refine ⟨fun pins s σ H Q I h => Call_ (thn (hf.run pins s σ H _ I h) fun u s1 hu => ?_) he⟩
  obtain ⟨v, H1, I1, r1, f, sp, ev, hkp, F, q⟩ := hu
  subst ev
  obtain rfl : u = Value.ref f := r1
  refine PySem.W.callWith_K (h₀ := X.base) (first := []) I1.ok.mod.kin hkp (thn (ha.run pos pins s1 σ H1 _ I1 q) fun us s2 hu => ?_) hs hpl
  obtain ⟨vs, H2, I2, r2, q2⟩ := hu
  refine ⟨I2.kIn, ?_⟩
  show wpAny _ _ (call (.ref f) us) _ _ _
  exact wpAny_call (codeAny_mono (run_fnR F (hr.mono hk) hx I2 r2 q2) fun r s' z => z)
end
end Bw
namespace Bw
open Krdk
def out (st : Krdk.Abs) (c : Nat) (g : List Int) : Except Int (Krdk.Abs × List Int) :=
  if c = 0 then (if hd g < 1 ∨ 5 < hd g then .error (-22) else .ok (some (Krdk.of (hd g) fun _ => false), [0]))
  else match st with
    | none => .error (-11)
    | some f => if c ≤ 7 then (match mk f c g with | .ok h => .ok (some h, [(h.yes : Int)]) | .error e => .error e)
      else (match ak f c g with | .ok l => .ok (some f, l) | .error e => .error e)
def resp (st : Krdk.Abs) (c : Nat) (g : List Int) : Krdk.Abs × List Int := match out st c g with
  | .ok r => r
  | .error e => (st, [e])
def WFs (st : Krdk.Abs) : Prop := ∀ f, st = some f → WF f
theorem mk_err {f : Answer} {c : Nat} {g : List Int} {e : Int} (h : mk f c g = .error e) : e = -2 ∨ e = -22 := by
  unfold mk at h
  split at h <;> (try split at h) <;> first | (cases h; omega) | (cases h; done)
theorem ak_err {f : Answer} {c : Nat} {g : List Int} {e : Int} (h : ak f c g = .error e) : e = -2 ∨ e = -22 := by
  unfold ak at h
  split at h <;> (try split at h) <;> first | (cases h; omega) | (cases h; done)
theorem out_err {st : Krdk.Abs} {c : Nat} {g : List Int} {e : Int} (h : out st c g = .error e) : e = -2 ∨ e = -11 ∨ e = -22 := by
  unfold out at h
  split at h
  · split at h
    · cases h; omega
    · cases h
  · split at h
    · cases h; omega
    · rename_i f
      split at h
      · split at h
        · cases h
        · rename_i e' he
          cases h
          have := mk_err he
          omega
      · split at h
        · cases h
        · rename_i e' he
          cases h
          have := ak_err he
          omega
theorem out_wf {st st' : Krdk.Abs} {c : Nat} {g l : List Int} (hs : WFs st) (h : out st c g = .ok (st', l)) : WFs st' := by
  unfold out at h
  split at h
  · split at h
    · cases h
    · rename_i q
      cases h
      intro f e
      cases e
      exact WF.mk_of (by omega) (by omega)
  · split at h
    · cases h
    · rename_i f
      split at h
      · split at h
        · rename_i h' he
          cases h
          intro f' e
          cases e
          exact mk_wf (hs f rfl) he
        · cases h
      · split at h
        · cases h
          exact hs
        · cases h
theorem resp_wf {st : Krdk.Abs} {c : Nat} {g : List Int} (hs : WFs st) : WFs (resp st c g).1 := by
  unfold resp
  cases h : out st c g with
  | ok r => exact out_wf (l := r.2) hs h
  | error e => exact hs
theorem resp_act {st : Krdk.Abs} (hs : WFs st) {c : Nat} (hc : c ≤ 21) (g : List Int) :
    (act st (callOf c g)).1 = (resp st c g).1 ∧ KrdkNeutral.told (act st (callOf c g)).2 = (resp st c g).2 := by
  unfold resp out
  by_cases h0 : c = 0
  · subst h0
    rw [if_pos rfl, act_begin]
    by_cases q : hd g < 1 ∨ 5 < hd g
    · rw [if_pos q, if_pos q]
      exact ⟨rfl, rfl⟩
    · rw [if_neg q, if_neg q]
      exact ⟨rfl, rfl⟩
  · rw [if_neg h0]
    cases st with
    | none =>
      rw [act_none (by omega) hc]
      exact ⟨rfl, rfl⟩
    | some f =>
      by_cases h7 : c ≤ 7
      · have e := act_mk (hs f rfl) (show 1 ≤ c by omega) h7 g
        rw [e]
        simp only [if_pos h7]
        cases q : mk f c g with
        | ok h => exact ⟨rfl, rfl⟩
        | error e => exact ⟨rfl, rfl⟩
      · obtain ⟨e1, e2⟩ := act_ak (f := f) (show 8 ≤ c by omega) hc g
        rw [e1, e2]
        simp only [if_neg h7]
        cases q : ak f c g with
        | ok h => exact ⟨rfl, rfl⟩
        | error e => exact ⟨rfl, rfl⟩
end Bw
namespace Bw
open PySem PySem.Spec PyProof.Rows L2 LamX NdefX
abbrev sCls : Stmt := top 59
abbrev sIni : Stmt := inClass sCls 0
abbrev sRep : Stmt := inClass sCls 1
abbrev sOb : Stmt := inClass sCls 2
abbrev sBeg : Stmt := inClass sCls 3
theorem scIni : FnScope ["self"] ["self"] (defScope sIni) := ⟨rfl, rfl, rfl, by decide +kernel, rfl, by decide +kernel, by decide +kernel⟩
theorem scRep : FnScope ["self", "name", "given"] ["self", "name", "given"] (defScope sRep) := ⟨rfl, rfl, rfl, by decide +kernel, rfl, by decide +kernel, by decide +kernel⟩
theorem scOb : FnScope ["self", "name", "given"] ["self", "name", "given"] (defScope sOb) := ⟨rfl, rfl, rfl, by decide +kernel, rfl, by decide +kernel, by decide +kernel⟩
theorem scBeg : FnScope ["self", "bits"] ["self", "bits"] (defScope sBeg) := ⟨rfl, rfl, rfl, by decide +kernel, rfl, by decide +kernel, by decide +kernel⟩
def svO : Krdk.Abs → List V
  | none => []
  | some f => sv f
/-- the one object: its answer -/
def LineAt (C : Addr) (H : Hp) (a : Addr) (st : Krdk.Abs) (W : Addr → Prop) : Prop := ∃ dx p, H a = some (.ins C dx [(("says" : Str), V.ref p)]) ∧ H p = some (.lst (svO st)) ∧ ¬ W p
/-- lists that somebody else keeps -/
def Trk (H : Hp) (W : Addr → Prop) : Prop := ∀ b, W b → ∃ xs, H b = some (.lst xs)
def Fx (a : Addr) (H H' : Hp) : Prop := ∀ b o, H b = some o → b ≠ a → (∀ ps, o ≠ HO.tbl ps) → H' b = some o
def NewP (H : Hp) (p : Addr) : Prop := ∀ o, H p = some o → ∃ ps, o = HO.tbl ps
theorem NewP.of {H : Hp} {p : Addr} (h : H p = none) : NewP H p := fun o e => by
  rw [h] at e
  cases e
theorem Fx.of {a : Addr} {H H' : Hp} (h : But a H H') : Fx a H H' := fun b o e n _ => h b o e n
theorem tabs_but {T : List (Addr × Str)} {a C dx : Addr} {fs : List (Str × V)} {H H' : Hp} (t : Tabs T H) (ha : H a = some (.ins C dx fs)) (h : But a H H') : Tabs T H' := fun p hp => by
  obtain ⟨ps, h1, h2, h3⟩ := t p hp
  refine ⟨ps, h _ _ h1 (ne_of h1 ha (fun z => by cases z)), h2, fun pos cv hc => ?_⟩
  obtain ⟨c, e1, e2⟩ := h3 pos cv hc
  exact ⟨c, e1, h _ _ e2 (ne_of e2 ha (fun z => by unfold CodeO at z; cases z))⟩
theorem look_says {v : V} : List.lookup ("says" : Str) [(("says" : Str), v)] = some v := by
  have e : (("says" : Str) == ("says" : Str)) = true := beq_self_eq_true _
  simp only [List.lookup, e]
theorem put_says {v x : V} : putF "says" v [(("says" : Str), x)] = [(("says" : Str), v)] := if_pos rfl
theorem look_no {m : Str} {v : V} (h : (m == ("says" : Str)) = false) : List.lookup m [(("says" : Str), v)] = none := by
  simp only [List.lookup, h]
/-- what the written part says of the class -/
structure Ln (K : PySem.W.Frag) (mg : Str → Option Value) (C : Addr) : Prop where
  cl : Cls K C
  nS : NoAttr K C "says"
  gC : mg "Line" = some (.ref C)
def spIni (C : Addr) : Sp := fun vs H Q _ => ∃ (a dx : Addr), vs = [.ref a] ∧ H a = some (.ins C dx []) ∧ ∀ H', LineAt C H' a none (fun _ => False) → But a H H' → Q .non H'
def spBeg (C CR : Addr) : Sp := fun vs H Q E => ∃ (a : Addr) (n : Nat) (st : Krdk.Abs) (W : Addr → Prop), vs = [.ref a, .int n] ∧ LineAt C H a st W ∧ Trk H W ∧ ((n < 1 ∨ 5 < n) → E (.ref CR) none H) ∧
  (1 ≤ n → n ≤ 5 → ∀ (H' : Hp) (p : Addr), LineAt C H' a (some (Krdk.of n fun _ => false)) W → But a H H' → H p = none → H' p = some (.lst [.int 0]) → Q (.ref p) H')
theorem sv_no (n : Nat) : sv (Krdk.of n fun _ => false) = List.replicate (2 ^ n) (V.int 0) := by
  unfold sv Krdk.of Krdk.words
  apply List.ext_getElem
  · simp
  · intro i h1 h2
    simp [bi]
section
variable {P : Program} {w : World} {K : PySem.W.Frag} {mg : Str → Option Value} {base : Heap} {C CB CR CN : Addr} {T : List (Addr × Str)}
theorem ok_ini {f : Addr} {fd : FuncData} (F : Fun K "__init__" "Line.__init__" sIni f fd) (L : Ln K mg C) : FnOk P w K mg base CX0 1 f fd ["self"] (spIni C) := by
  refine F.ok scIni (fun vs H Q E h => ?_) (fun cdv A outer s H vs Q E hr h => ⟨_, pss_one (ps_fld (pv 0) (pe_lst pa_nil) rfl), ?_⟩)
  · obtain ⟨a, dx, rfl, _⟩ := h
    rfl
  · obtain ⟨a, dx, rfl, ha, k⟩ := h
    refine ⟨by show 0 ≤ sizeLine; decide, fun p hp => ⟨_, rfl, a, C, dx, [], rfl, (Same.upd hp) _ _ ha, L.cl, L.nS, by show 0 < 1000; decide, ?_⟩⟩
    have npa : p ≠ a := fun e => by
      rw [e, ha] at hp
      cases hp
    exact k _ ⟨dx, p, upd_same, by rw [upd_ne npa, upd_same]; rfl, fun z => z⟩ fun b o e n => by
      rw [upd_ne n, upd_ne (ne_of_none e hp)]
      exact e
theorem ok_beg {f : Addr} {fd : FuncData} {t5 : Tok} (F : Fun K "begin" "Line.begin" sBeg f fd) (L : Ln K mg C) (R : Er K mg "NotRight" CR) (m5 : mg "MOST_BITS" = some (.int 5 t5)) (G : Hs P w K mg base CX0 1 "no_to_all" spNta) :
    FnOk P w K mg base (L2.CX P w) 2 f fd ["self", "bits"] (spBeg C CR) := by
  refine F.okX scBeg (fun vs H Q E h => ?_) (fun cdv A outer s H vs Q E hr h => ⟨_, pss_cons (ps_if (PW.pt (pw_or (pt_cmpR op_lt (pv 1) pe_int (nomark _)) (pw_or1 (pt_cmpR op_gt (pv 1) (pe_glob (v := .int 5) rfl m5 ⟨_, rfl⟩) (nomark _))))) (pss_one (ps_rz rfl R (takes_of rfl rfl rfl rfl))) pss_nil)
    (pss_cons (ps_fld (pv 0) (pe_h G hr (by decide) (pa_cons (pv 1) pa_nil)) rfl) (pss_one (ps_ret (pe_lst (pa_cons pe_int pa_nil))))), ?_⟩)
  · obtain ⟨a, n, st, W, rfl, _⟩ := h
    rfl
  · obtain ⟨a, n, st, W, rfl, ⟨dx, p, ha, hp, hw⟩, hW, kE, kO⟩ := h
    refine ⟨_, rfl, _, _, rfl, rfl, _, rfl, ?_⟩
    by_cases c1 : n < 1
    · exact cond_t (decide_eq_true (by omega)) (cond_t rfl (kE (.inl c1)))
    · refine cond_f (decide_eq_false (by omega)) ⟨_, rfl, _, _, rfl, rfl, _, rfl, ?_⟩
      by_cases c5 : 5 < n
      · exact cond_t (decide_eq_true (by omega)) (kE (.inr c5))
      · refine cond_f (decide_eq_false (by omega)) ⟨_, rfl, n, rfl, by omega, fun H1 q s1 hq0 hq => ?_⟩
        refine ⟨_, rfl, a, C, dx, _, rfl, s1 _ _ ha, L.cl, L.nS, by show 1 < 1000; decide, by show 1 ≤ sizeLine; decide, fun r hr0 => ?_⟩
        rw [put_says] at hr0 ⊢
        have nqa : q ≠ a := fun e => by
          rw [e, ha] at hq0
          cases hq0
        have nra : r ≠ a := fun e => by
          rw [e, upd_same] at hr0
          cases hr0
        have hr1 : H1 r = none := by
          rw [upd_ne nra] at hr0
          exact hr0
        have nqr : q ≠ r := ne_of_none hq hr1
        refine kO (by omega) (by omega) _ r ⟨dx, q, ?_, ?_, fun z => ?_⟩ (fun b o e n => ?_) (s1.free hr1) upd_same
        · rw [upd_ne nra.symm, upd_same]
        · rw [upd_ne nqr, upd_ne nqa, hq, svO, sv_no]
        · obtain ⟨xs, hxs⟩ := hW q z
          rw [hq0] at hxs
          cases hxs
        · have e1 := s1 _ _ e
          rw [upd_ne (ne_of_none e1 hr1), upd_ne n]
          exact e1
end
end Bw
namespace Bw
open PySem PySem.Spec PyProof.Rows L2 LamX NdefX
def NMS : List Str := ["begin", "told", "least", "odd", "bit", "not_of", "turn", "set", "ask", "mean", "sway", "all_sways", "even", "part", "parts", "levels", "sides", "fewest", "rising", "idle", "most", "state"]
def nm (c : Nat) : Str := NMS.getD c ""
def need : Nat → Nat
  | 0 => 1
  | 2 => 1
  | 3 => 1
  | 4 => 1
  | 6 => 1
  | 7 => 2
  | 8 => 1
  | 10 => 1
  | 13 => 1
  | _ => 0
/-- the two dicts of defs -/
structure Dm (P : Program) (w : World) (K : PySem.W.Frag) (mg : Str → Option Value) (base : Heap) (T : List (Addr × Str)) (CB CR DM DA : Addr) : Prop where
  gM : mg "MAKING" = some (.ref DM)
  gA : mg "ASKING" = some (.ref DA)
  dM : ∃ es n, KDict K w DM es n
  dA : ∃ es n, KDict K w DA es n
  inM : ∀ c, 1 ≤ c → c ≤ 7 → ∃ f, PySem.W.nsIn K DM (nm c) = some (some (.ref f)) ∧ PySem.W.keepIn K (.ref f) = true ∧ FnR P w K mg base (L2.CX P w) 6 f (spM K T CB CR (need c) c)
  noM : ∀ c, 8 ≤ c → c ≤ 21 → PySem.W.nsIn K DM (nm c) = some none
  inA : ∀ c, 8 ≤ c → c ≤ 21 → ∃ f, PySem.W.nsIn K DA (nm c) = some (some (.ref f)) ∧ PySem.W.keepIn K (.ref f) = true ∧ FnR P w K mg base (L2.CX P w) 6 f (spA K CB CR (need c) c)
def erO (CB CR CN : Addr) (e : Int) : Addr := if e = -2 then CB else if e = -11 then CN else CR
theorem erC_O {CB CR CN : Addr} {e : Int} (h : e = -2 ∨ e = -22) : erC CB CR e = erO CB CR CN e := by
  rcases h with h | h <;> subst h <;> rfl
theorem erO_22 {CB CR CN : Addr} : erO CB CR CN (-22) = CR := by
  unfold erO
  rw [if_neg (by decide), if_neg (by decide)]
theorem erO_11 {CB CR CN : Addr} : erO CB CR CN (-11) = CN := by
  unfold erO
  rw [if_neg (by decide), if_pos rfl]
theorem erO_2 {CB CR CN : Addr} : erO CB CR CN (-2) = CB := by
  unfold erO
  rw [if_pos rfl]
def spOb (K : PySem.W.Frag) (T : List (Addr × Str)) (C CB CR CN : Addr) : Sp := fun vs H Q E => ∃ (a g : Addr) (c : Nat) (st : Krdk.Abs) (given : List Int) (W : Addr → Prop), vs = [.ref a, .str (nm c), .ref g] ∧ c ≤ 21 ∧ WFs st ∧ LineAt C H a st W ∧ Trk H W ∧ SqL K H g (given.map V.int) ∧ Pre (need c) given ∧ Tabs T H ∧
  (∀ st' l, out st c given = .ok (st', l) → ∀ (H' : Hp) (p : Addr), LineAt C H' a st' W → Fx a H H' → Tabs T H' → NewP H p → H' p = some (.lst (l.map V.int)) → Q (.ref p) H') ∧
  (∀ e, out st c given = .error e → ∀ H', Same H H' → E (.ref (erO CB CR CN e)) none H')
def spRep (K : PySem.W.Frag) (T : List (Addr × Str)) (C : Addr) : Sp := fun vs H Q _ => ∃ (a g : Addr) (c : Nat) (st : Krdk.Abs) (given : List Int) (W : Addr → Prop), vs = [.ref a, .str (nm c), .ref g] ∧ c ≤ 21 ∧ WFs st ∧ LineAt C H a st W ∧ Trk H W ∧ SqL K H g (given.map V.int) ∧ Pre (need c) given ∧ Tabs T H ∧
  ∀ (H' : Hp) (p : Addr), LineAt C H' a (resp st c given).1 W → Fx a H H' → Tabs T H' → NewP H p → H' p = some (.lst ((resp st c given).2.map V.int)) → Q (.ref p) H'
/-- which error is which -/
structure Ex3 (K : PySem.W.Frag) (CB CR CN : Addr) : Prop where
  bb : PySem.W.exmOne K (.ref CB) (.ref CB) = some true
  nb : PySem.W.exmOne K (.ref CN) (.ref CB) = some false
  nn : PySem.W.exmOne K (.ref CN) (.ref CN) = some true
  rb : PySem.W.exmOne K (.ref CR) (.ref CB) = some false
  rn : PySem.W.exmOne K (.ref CR) (.ref CN) = some false
  rr : PySem.W.exmOne K (.ref CR) (.ref CR) = some true
theorem nm_begin : ∀ c, c ≤ 21 → decide (V.str (nm c) = V.str "begin") = decide (c = 0) := by decide +kernel
theorem zero_dec (n : Nat) : decide (V.int (n : Int) = V.int 0) = decide (n = 0) := by
  by_cases h : n = 0
  · subst h
    rfl
  · rw [decide_eq_false h]
    exact decide_eq_false fun q => h (by have := V.int.inj q; omega)
section
variable {P : Program} {w : World} {K : PySem.W.Frag} {mg : Str → Option Value} {base : Heap} {C CB CR CN DM DA : Addr} {T : List (Addr × Str)}
theorem ok_ob (B : Bn mg) {f fB : Addr} {fd fdB : FuncData} (F : Fun K "obey" "Line.obey" sOb f fd) (L : Ln K mg C) (R : Er K mg "NotBegun" CN) (D : Dm P w K mg base T CB CR DM DA) (mB : Meth K C "begin" fB) (GB : FnOk P w K mg base (L2.CX P w) 2 fB fdB ["self", "bits"] (spBeg C CR)) (bB : Binds K fdB ["self", "bits"] []) :
    FnOk P w K mg base (L2.CX P w) 7 f fd ["self", "name", "given"] (spOb K T C CB CR CN) := by
  obtain ⟨esM, nM, dM⟩ := D.dM
  obtain ⟨esA, nA, dA⟩ := D.dA
  refine F.okX scOb (fun vs H Q E h => ?_) (fun cdv A outer s H vs Q E hr h => ⟨_, pss_cons (ps_if (pt_cmpR op_eq (pv 1) pe_str (nomark _)) (pss_one (ps_ret (pe_meth (E := E) (pv 0) L.cl mB GB (hr.mono (by decide)) bB .nil (passes_call (takes_of rfl rfl rfl rfl) (fun _ _ _ _ h => h)) (pa_cons (pe_ix ix_list (pv 2) pe_int (fun _ _ => rfl)) pa_nil)))) pss_nil)
    (pss_cons (ps_if (pt_cmpR op_eq (pe_callB call_len_seq (by rfl) B.len PySem.boot_len (pa_cons (pe_fld (pv 0) rfl) pa_nil)) pe_int (nomark _)) (pss_one (ps_rz rfl R (takes_of rfl rfl rfl rfl))) pss_nil)
    (pss_cons (ps_if (pt_cmpR (op_in_kd dM) (pv 1) (pe_glob (v := .ref DM) rfl D.gM rfl) rfl)
        (pss_cons (ps_fld (pv 0) (pe_dcall (E := E) (CX := L2.CX P w) (k := 6) (pe_ix (r := rIxD K w) ix_kdict (pe_glob (v := .ref DM) rfl D.gM rfl) (pv 1) (fun _ _ => rfl)) hr (by decide) (passes_call (takes_of rfl rfl rfl rfl) (fun _ _ _ _ h => h)) (pa_cons (pe_fld (pv 0) rfl) (pa_cons (pv 2) pa_nil))) rfl)
        (pss_one (ps_ret (pe_lst (pa_cons (pe_callB (cr_sum rfl) (by rfl) B.sum (by decide +kernel) (pa_cons (pe_fld (pv 0) rfl) pa_nil)) pa_nil))))) pss_nil)
    (pss_one (ps_ret (pe_dcall (E := E) (CX := L2.CX P w) (k := 6) (pe_ix (r := rIxD K w) ix_kdict (pe_glob (v := .ref DA) rfl D.gA rfl) (pv 1) (fun _ _ => rfl)) hr (by decide) (passes_call (takes_of rfl rfl rfl rfl) (fun _ _ _ _ h => h)) (pa_cons (pe_fld (pv 0) rfl) (pa_cons (pv 2) pa_nil))))))), ?_⟩)
  · obtain ⟨a, g, c, st, given, W, rfl, _⟩ := h
    rfl
  · obtain ⟨a, g, c, st, given, W, rfl, hc, hst, ⟨dx, p, ha, hp, hw⟩, hW, hG, hP, hT, kO, kE⟩ := h
    have kE22 : out st c given = .error (-22) → E (.ref CR) none H := fun z => by
      have := kE (-22) z H (Same.refl H)
      rw [erO_22] at this
      exact this
    have kE11 : out st c given = .error (-11) → E (.ref CN) none H := fun z => by
      have := kE (-11) z H (Same.refl H)
      rw [erO_11] at this
      exact this
    refine ⟨_, rfl, rfl, _, rfl, ?_⟩
    rw [nm_begin c hc]
    by_cases c0 : c = 0
    · subst c0
      refine cond_t rfl ⟨_, rfl, a, dx, _, rfl, ha, look_no (by decide +kernel), _, rfl, g, _, _, _, rfl, rfl, hG, at0 (k := 0) hP, a, hd given, st, W, rfl, ⟨dx, p, ha, hp, hw⟩, hW, fun z => kE22 (if_pos z), fun h1 h5 H' q l1 b1 n1 e1 => ?_⟩
      · refine kO _ [0] ?_ H' q l1 (Fx.of b1) (tabs_but hT ha b1) (NewP.of n1) e1
        show (if hd given < 1 ∨ 5 < hd given then _ else _) = _
        exact if_neg (by omega)
    · refine cond_f (decide_eq_false c0) ?_
      refine ⟨_, rfl, a, C, dx, _, _, rfl, ha, L.cl, L.nS, look_says, p, _, rfl, .inl (SqL.of hp), rfl, _, rfl, ?_⟩
      rw [zero_dec]
      cases st with
      | none =>
        refine cond_t rfl (kE11 ?_)
        unfold out
        rw [if_neg c0]
      | some f =>
        have hf := hst f rfl
        have hl0 : (svO (some f)).length ≠ 0 := by
          show (sv f).length ≠ 0
          rw [sv_len hf]
          exact Nat.ne_of_gt (Nat.two_pow_pos _)
        refine cond_f (decide_eq_false hl0) ?_
        by_cases c7 : c ≤ 7
        · obtain ⟨fM, e1, e2, FM⟩ := D.inM c (by omega) c7
          have hout : out (some f) c given = (match mk f c given with | .ok h => .ok (some h, [(h.yes : Int)]) | .error e => .error e) := by
            unfold out
            rw [if_neg c0]
            exact if_pos c7
          refine ⟨_, rfl, _, _, rfl, rfl, e1, _, rfl, cond_t rfl ?_⟩
          refine ⟨_, rfl, DM, _, .ref fM, rfl, rfl, ⟨esM, nM, _, dM.at_, dM.lit, e1, rfl⟩, fM, _, rfl, e2, FM, _, rfl, a, C, dx, _, _, rfl, ha, L.cl, L.nS, look_says, _, rfl, p, g, f, given, rfl, hf, SqL.of hp, hG, hP, hT, fun f' e3 H2 q eN t2 nq hq => ?_, fun e e3 H' s => ?_⟩
          · have ha2 : H2 a = some (.ins C dx [(("says" : Str), V.ref p)]) := eN _ _ ha fun ps z => by cases z
            have nqa : q ≠ a := ne_of hq ha2 (fun z => by cases z)
            refine ⟨_, rfl, a, C, dx, _, rfl, ha2, L.cl, L.nS, by show 1 < 1000; decide, ?_⟩
            rw [put_says]
            have hq3 : upd H2 a (.ins C dx [(("says" : Str), V.ref q)]) q = some (.lst (sv f')) := by
              rw [upd_ne nqa]
              exact hq
            refine ⟨_, rfl, a, C, dx, _, _, rfl, upd_same, L.cl, L.nS, look_says, q, f'.t.map bi, rfl, ?_, by show 1 ≤ sizeLine; decide, fun r hr0 => ?_⟩
            · rw [← sv_ints]
              exact SqL.of hq3
            · have hf' := mk_wf hf e3
              rw [yes_sum hf']
              have nra : r ≠ a := fun z => by
                rw [z, upd_same] at hr0
                cases hr0
              have hr2 : H2 r = none := by
                rw [upd_ne nra] at hr0
                exact hr0
              refine kO (some f') [(f'.yes : Int)] ?_ _ r ⟨dx, q, ?_, ?_, fun z => ?_⟩ (fun b o e n nt => ?_) ?_ (fun o ho => ?_) upd_same
              · rw [hout, e3]
              · rw [upd_ne nra.symm, upd_same]
              · rw [upd_ne (ne_of_none hq3 hr0)]
                exact hq3
              · obtain ⟨xs, hxs⟩ := hW q z
                obtain ⟨ps, hps⟩ := nq _ hxs
                cases hps
              · have h2 := eN b o e nt
                rw [upd_ne (ne_of_none h2 hr2), upd_ne n]
                exact h2
              · exact (tabs_but t2 ha2 (But.refl a H2).upd).ext (Same.upd hr0)
              · cases o with
                | tbl ps => exact ⟨ps, rfl⟩
                | _ => exact absurd ((eN r _ ho fun ps z => by cases z).symm.trans hr2) (by simp)
          · rw [erC_O (CN := CN) (mk_err e3)]
            refine kE e ?_ H' s
            rw [hout, e3]
        · have hN := D.noM c (by omega) hc
          obtain ⟨fA, e1, e2, FA⟩ := D.inA c (by omega) hc
          have hout : out (some f) c given = (match ak f c given with | .ok l => .ok (some f, l) | .error e => .error e) := by
            unfold out
            rw [if_neg c0]
            exact if_neg c7
          refine ⟨_, rfl, _, _, rfl, rfl, hN, _, rfl, cond_f rfl ?_⟩
          refine ⟨_, rfl, DA, _, .ref fA, rfl, rfl, ⟨esA, nA, _, dA.at_, dA.lit, e1, rfl⟩, fA, _, rfl, e2, FA, _, rfl, a, C, dx, _, _, rfl, ha, L.cl, L.nS, look_says, _, rfl, p, g, f, given, rfl, hf, SqL.of hp, hG, hP, fun l e3 H2 q s2 hq0 hq => ?_, fun e e3 H' s => ?_⟩
          · refine kO (some f) l ?_ H2 q ⟨dx, p, s2 _ _ ha, s2 _ _ hp, hw⟩ (fun b o e _ _ => s2 b o e) (hT.ext s2) (NewP.of hq0) hq
            rw [hout, e3]
          · rw [erC_O (CN := CN) (ak_err e3)]
            refine kE e ?_ H' s
            rw [hout, e3]
end
end Bw
/-! ### o.m(e, ..) within a try -/
namespace Toy
open PySem PySem.Spec PyProof.Rows L2
/-- o.m(e, ..) within a try: what it raises is wished for at the slots as they stand -/
def tMethS (C : Addr) (m : Str) (sp : Sp) (E : L2.St → XK) (ta : TE) (t : TA) : TE := fun σ H Q => ta σ H fun x H1 => ∃ a dx fs, x = .ref a ∧ H1 a = some (.ins C dx fs) ∧ fs.lookup m = none ∧ t σ H1 fun vs H2 => sp (x :: vs) H2 Q (E σ)
theorem pe_methS {X : Cx} {CX : CXT} {k : Nat} {f C : Addr} {fd : FuncData} {ps : List Str} {sp : Sp} {E : L2.St → XK} {m : Str} {pos apos : Pos} {e o : Expr} {es : List Expr} {ta : TE} {t : TA} {pl : Sem Bool} (he : PE X o ta) (c : Cls X.K C) (hm : Meth X.K C m f)
    (F : FnOk X.prog X.w X.K X.mg X.base CX k f fd ps sp) (hr : Room k X.A) (hb : Binds X.K fd ps []) (hx : ∀ σ, PassesAt CX X σ (E σ)) (ha : PA X (e :: es) t)
    (hst : starEach (e :: es) X.env = (false, eval e X.env) :: starEach es X.env := by rfl) (hpl : (backTo pos (starEach es X.env)).any (·.1) = false := by rfl)
    (ht : eval (.Call (.Attribute o m apos) (e :: es) [] pos) X.env = (do
      let ov ← eval o X.env
      standAt apos.atName
      let (f, first) ← holding [ov] (getMethod ov m pl)
      callWith pos f first (backTo pos (starEach (e :: es) X.env)) (backToKw pos (keywordEach [] X.env))) := by rfl) :
    PE X (.Call (.Attribute o m apos) (e :: es) [] pos) (tMethS C m sp E ta t) := by
  refine ⟨fun pins s σ H Q I h => ?_⟩
  refine PySem.W.methodCall_KW (pl := pl) (thn (he.run pins s σ H _ I h) fun u s1 ⟨x, H1, I1, rx, a, dx, fs, ex, ea, l, q⟩ => ?_) ht
  subst ex
  obtain rfl : u = Value.ref a := rx
  refine getmeth_ok I1 ea c hm l ?_
  refine PySem.W.callWith_K (first := [.ref a]) (h₀ := X.base) I1.ok.mod.kin hm.kp (thn (ha.run pos pins s1 σ H1 _ I1 q) fun us s2 ⟨vs, H2, I2, r, q2⟩ => ⟨I2.kIn, ?_⟩) hst hpl
  exact run_fnS (us := .ref a :: us) (vs := .ref a :: vs) F hr hb (hx σ) I2 (.cons rfl r) q2
end Toy
namespace Bw
open PySem PySem.Spec PyProof.Rows L2 LamX NdefX
def tNeg (n : Int) : TS := tRet (tLst (tCons (tUn (rU fun i => .int (-i)) (tC (.int n))) tNil))
section
variable {P : Program} {w : World} {K : PySem.W.Frag} {mg : Str → Option Value} {base : Heap} {C CB CR CN : Addr} {T : List (Addr × Str)}
theorem ok_rep {f fO : Addr} {fd fdO : FuncData} (F : Fun K "reply" "Line.reply" sRep f fd) (L : Ln K mg C) (gB : mg "NoSuchBit" = some (.ref CB)) (gN : mg "NotBegun" = some (.ref CN)) (gR : mg "NotRight" = some (.ref CR)) (X3 : Ex3 K CB CR CN)
    (mO : Meth K C "obey" fO) (GO : FnOk P w K mg base (L2.CX P w) 7 fO fdO ["self", "name", "given"] (spOb K T C CB CR CN)) (bO : Binds K fdO ["self", "name", "given"] []) :
    FnOk P w K mg base CX0 8 f fd ["self", "name", "given"] (spRep K T C) := by
  refine F.ok scRep (fun vs H Q E h => ?_) (fun cdv A outer s H vs Q E hr h => ⟨_, pss_one (ps_try_many (tb := fun W => tRet (Toy.tMethS C "obey" (spOb K T C CB CR CN) (WE W) (tVar 0) (tCons (tVar 1) (tCons (tVar 2) tNil)))) (l := [(.ref CB, fun _ _ _ => tNeg 2), (.ref CN, fun _ _ _ => tNeg 11), (.ref CR, fun _ _ _ => tNeg 22)]) (Wout := fun _ _ _ _ => False) rfl rfl L2.takes0
      (fun W pn xe tk _ => pss_one (ps_ret (Toy.pe_methS (pv 0) L.cl mO GO hr bO (fun σ => passAt tk σ) (by exact (pa_cons (pv 1) (pa_cons (pv 2) pa_nil))))))
      (.cons ⟨rfl, by decide, .inl gB⟩ (fun _ _ _ _ _ _ _ => pss_one (ps_ret (pe_lst (pa_cons (pe_un un_neg pe_int) pa_nil))))
      (.cons ⟨rfl, by decide, .inl gN⟩ (fun _ _ _ _ _ _ _ => pss_one (ps_ret (pe_lst (pa_cons (pe_un un_neg pe_int) pa_nil))))
      (.cons ⟨rfl, by decide, .inl gR⟩ (fun _ _ _ _ _ _ _ => pss_one (ps_ret (pe_lst (pa_cons (pe_un un_neg pe_int) pa_nil)))) .nil)))), ?_⟩)
  · obtain ⟨a, g, c, st, given, W, rfl, _⟩ := h
    rfl
  · obtain ⟨a, g, c, st, given, W, rfl, hc, hst, ⟨dx, p, ha, hp, hw⟩, hW, hG, hP, hT, k⟩ := h
    refine ⟨_, rfl, a, dx, _, rfl, ha, look_no (by decide +kernel), _, rfl, _, rfl, a, g, c, st, given, W, rfl, hc, hst, ⟨dx, p, ha, hp, hw⟩, hW, hG, hP, hT, fun st' l e H' q l1 f1 t1 n1 q1 => ?_, fun e he H' s1 => ?_⟩
    · have er : resp st c given = (st', l) := by
        unfold resp
        rw [e]
      rw [er] at k
      exact k H' q l1 f1 t1 n1 q1
    · have er : resp st c given = (st, [e]) := by
        unfold resp
        rw [he]
      rw [er] at k
      have fin : ∀ (n : Int), e = -n → ∀ q, H' q = none → Q (.ref q) (upd H' q (.lst [V.int (-n)])) := fun n en q hq => by
        rw [← en]
        have s2 := Same.upd (o := .lst [V.int e]) hq
        exact k _ q ⟨dx, p, s2 _ _ (s1 _ _ ha), s2 _ _ (s1 _ _ hp), hw⟩ (fun b o z _ _ => s2 _ _ (s1 _ _ z)) (hT.ext (s1.trans s2)) (NewP.of (s1.free hq)) upd_same
      have i2 : ∀ {n : Int}, e = -n → ∀ {σ : L2.St}, tNeg n { nx := fun _ H' => Q .non H', rt := Q } σ H' := fun {n} en {σ} => ⟨_, rfl, by show 1 ≤ sizeLine; decide, fun q hq => fin n en q hq⟩
      rcases out_err he with e1 | e1 | e1
      · subst e1
        rw [erO_2]
        exact ⟨true, X3.bb, fun _ _ _ => i2 (n := 2) rfl, fun z => Bool.noConfusion z⟩
      · subst e1
        rw [erO_11]
        exact ⟨false, X3.nb, fun z => Bool.noConfusion z, fun _ => ⟨true, X3.nn, fun _ _ _ => i2 (n := 11) rfl, fun z => Bool.noConfusion z⟩⟩
      · subst e1
        rw [erO_22]
        exact ⟨false, X3.rb, fun z => Bool.noConfusion z, fun _ => ⟨false, X3.rn, fun z => Bool.noConfusion z, fun _ => ⟨true, X3.rr, fun _ _ _ => i2 (n := 22) rfl, fun z => Bool.noConfusion z⟩⟩⟩
end
end Bw
namespace Bw
open PySem PySem.Spec PyProof.Rows L2
/-! ### d.get(name, z), d a written dict -/
section
variable {X : Cx} {d : Addr} {es : Array DictEntry} {n : Nat} {o e f : Expr} {te tf : TE} {apos cpos : Pos}
theorem pe_kget (D : KDict X.K X.w d es n) (ho : PE X o (tC (.ref d))) (he : PE X e te) (hf : PE X f tf) (m : M2 X o "get" apos e f cpos) : PE X (.Call (.Attribute o "get" apos) [e, f] [] cpos)
    (fun σ H Q => te σ H fun y H1 => tf σ H1 fun z H2 => ∃ (s : Str) (r : Option Value) (v : V), y = .str s ∧ PySem.W.nsIn X.K d s = some r ∧ (∀ u, r = some u → RelV v u) ∧ (r = none → v = z) ∧ Q v H2) := by
  refine ⟨fun pins s σ H Q I h => ?_⟩
  refine wpAny_Call_method m.base m.few m.line PySem.F.plainAttrs_dict PySem.F.slot_dict_get PySem.F.type_dict_get (thn (ho.run pins s σ H (fun v H1 => v = .ref d ∧ H1 = H) I ⟨rfl, rfl⟩) fun u s1 hu => ?_)
  obtain ⟨v0, H0, I1, rv, e1, e2⟩ := hu
  subst e1 e2
  obtain rfl : u = Value.ref d := rv
  have mp := PySem.W.mapOf_K (prog := X.prog) (w := X.w) I1.kIn D.at_ D.lit
  refine ⟨mp.typeIs, fun b q => by cases q; exact ⟨_, I1.kIn _ _ D.at_, rfl⟩, ?_⟩
  rw [m.trees]
  refine Calls.callWith_builtin rfl (Calls.evalArgs_plain (Calls.spliced_cons (thn (he.run pins s1 σ H0 _ I1 h) fun iv s2 hu => ?_)))
  obtain ⟨y, H2, I2, ry, q2⟩ := hu
  refine Calls.spliced_cons (thn (hf.run pins s2 σ H2 _ I2 q2) fun fv s3 hu => Calls.spliced_nil ?_)
  obtain ⟨z, H3, I3, rz, st, r, v, ey, hn, h1, h2, q3⟩ := hu
  subst ey
  obtain ⟨t, rfl⟩ := (show ∃ t, iv = Value.str st t from ry)
  have mp3 := PySem.W.mapOf_K (prog := X.prog) (w := X.w) I3.kIn D.at_ D.lit
  refine call_meetsIn PySem.F.slot_dict_get mp3.typeIs PySem.F.entry_dict_get (PySem.F.args_dict_get_3 _ _ _) (meets_dict_get_default (strKind X.prog X.w) d (PySem.strKind_is X.prog X.w st t) D.low fv) ⟨_, mp3, ?_⟩
  have hr := PySem.W.find_K D.at_ hn
  rw [hr]
  refine ⟨v, H3, I3.tok _, ?_, q3⟩
  cases r with
  | none =>
    rw [h2 rfl]
    exact rz
  | some u => exact h1 u rfl
end
end Bw
namespace Bw
open Krdk
def pl : Nat → Nat
  | 0 => 1
  | 2 => 1
  | 3 => 1
  | 4 => 1
  | 6 => 1
  | 7 => 2
  | 8 => 1
  | 10 => 1
  | 13 => 1
  | _ => 0
def rwn : Nat → Nat
  | 1 => 1
  | 2 => 1
  | _ => 0
theorem shape_is : ∀ c : Nat, c ≤ 21 → PyKrdk.shape (c : Int) = some (pl c, rwn c) := by decide +kernel
theorem shape_of {p : Int} {q : Nat × Nat} (h : PyKrdk.shape p = some q) : ∃ c : Nat, c ≤ 21 ∧ p = (c : Int) := by
  by_cases g : 0 ≤ p ∧ p ≤ 21
  · exact ⟨p.toNat, by omega, by omega⟩
  · exfalso
    have e : PyKrdk.shape p = none := by
      unfold PyKrdk.shape
      rw [if_neg (by omega), if_neg (by omega), if_neg (by omega), if_neg (by omega), if_neg (by omega), if_neg (by omega), if_neg (by omega), if_neg (by omega), if_neg (by omega), if_neg (by omega), if_neg (by omega),
        if_neg (by omega), if_neg (by omega), if_neg (by omega), if_neg (by omega), if_neg (by omega), if_neg (by omega), if_neg (by omega), if_neg (by omega), if_neg (by omega), if_neg (by omega), if_neg (by omega)]
    rw [e] at h
    cases h
/-- a call as the program reads it: its number, its numbers -/
structure Raw (c : List (List Int)) (k : Nat) (a r : List Int) : Prop where
  k21 : k ≤ 21
  la : a.length = pl k
  lr : rwn k = 0 → r = []
  form : c = ((k : Int) :: a) :: (if rwn k = 1 then [r] else [])
  flat : PyFlat.put1 c = (k : Int) :: (a ++ (if rwn k = 1 then (r.length : Int) :: r else []))
  call : KrdkNeutral.call c = callOf k (a ++ r)
def RawIs (c : List (List Int)) (k : Nat) (g : List Int) : Prop := ∃ a r, Raw c k a r ∧ g = a ++ r
theorem rwn_01 (k : Nat) : rwn k = 0 ∨ rwn k = 1 := by
  unfold rwn
  split <;> simp
theorem two_of {l : List Int} (h : l.length = 2) : ∃ x y, l = [x, y] := by
  match l, h with
  | [x, y], _ => exact ⟨x, y, rfl⟩
theorem raw_of {c : List (List Int)} (h : PyFlat.okCall PyKrdk.shape c) : ∃ k a r, Raw c k a r := by
  obtain ⟨p, a, xs, hc, hs⟩ := h
  obtain ⟨k, hk, rfl⟩ := shape_of hs
  rw [shape_is k hk] at hs
  have e := Option.some.inj hs
  have h1 : a.length = pl k := (congrArg Prod.fst e).symm
  have h2 : xs.length = rwn k := (congrArg Prod.snd e).symm
  have hr : ∃ r, (rwn k = 0 → r = []) ∧ xs = if rwn k = 1 then [r] else [] := by
    rcases rwn_01 k with z | z
    · rw [z] at h2
      exact ⟨[], fun _ => rfl, by rw [if_neg (by omega)]; exact List.length_eq_zero_iff.mp h2⟩
    · rw [z] at h2
      match xs, h2 with
      | [r], _ => exact ⟨r, fun q => by omega, by rw [if_pos z]⟩
  obtain ⟨r, hr1, hr2⟩ := hr
  refine ⟨k, a, r, hk, h1, hr1, by rw [hc, hr2], ?_, ?_⟩
  · subst hc
    rw [hr2]
    show (k : Int) :: a ++ PyFlat.putRows _ = _
    rcases rwn_01 k with z | z
    · rw [if_neg (by omega), if_neg (by omega)] <;> rfl
    · rw [if_pos z, if_pos z]
      simp [PyFlat.putRows, PyFlat.putRow]
  · subst hc
    have cases22 : k = 0 ∨ k = 1 ∨ k = 2 ∨ k = 3 ∨ k = 4 ∨ k = 5 ∨ k = 6 ∨ k = 7 ∨ k = 8 ∨ k = 9 ∨ k = 10 ∨ k = 11 ∨ k = 12 ∨ k = 13 ∨ k = 14 ∨ k = 15 ∨ k = 16 ∨ k = 17 ∨ k = 18 ∨ k = 19 ∨ k = 20 ∨ k = 21 := by omega
    rcases cases22 with z | z | z | z | z | z | z | z | z | z | z | z | z | z | z | z | z | z | z | z | z | z <;> subst z <;> (try (obtain rfl := hr1 rfl)) <;> subst hr2 <;>
      first
        | (obtain rfl := List.length_eq_zero_iff.mp h1; rfl)
        | (obtain ⟨x, rfl⟩ := List.length_eq_one_iff.mp h1; rfl)
        | (obtain ⟨x, y, rfl⟩ := two_of h1; rfl)
end Bw
namespace Bw
open PySem PySem.Spec PyProof.Rows L2
theorem cut_mid {l A B C : List Int} (e : l = A ++ (B ++ C)) {i j : Int} (hi : i = (A.length : Int)) (hj : j = ((A.length + B.length : Nat) : Int)) : cutV (l.map V.int) (some i) (some j) = B.map V.int := by
  subst e hi hj
  unfold cutV
  rw [HT.sIx_nat, HT.sIx_nat]
  have hl : ((A ++ (B ++ C)).map V.int).length = A.length + (B.length + C.length) := by simp
  rw [hl, Nat.min_eq_left (by omega), Nat.min_eq_left (by omega), List.map_append, List.map_append]
  have h1 : List.drop A.length (A.map V.int ++ (B.map V.int ++ C.map V.int)) = B.map V.int ++ C.map V.int := by
    have := List.drop_left (l₁ := A.map V.int) (l₂ := B.map V.int ++ C.map V.int)
    rw [List.length_map] at this
    exact this
  rw [h1, Nat.add_sub_cancel_left]
  have := List.take_left (l₁ := B.map V.int) (l₂ := C.map V.int)
  rw [List.length_map] at this
  exact this
theorem at_mid {l A C : List Int} {z : Int} (e : l = A ++ z :: C) {i : Int} (hi : i = (A.length : Int)) : atI (l.map V.int) i = some (.int z) := by
  subst e hi
  refine atI_nat ?_
  rw [List.getElem?_map, List.getElem?_append_right (Nat.le_refl _), Nat.sub_self] <;> rfl
theorem put_app (a b : List (List (List Int))) : PyFlat.put (a ++ b) = PyFlat.put a ++ PyFlat.put b := by
  induction a with
  | nil => rfl
  | cons c a ih =>
    show PyFlat.put1 c ++ PyFlat.put (a ++ b) = (PyFlat.put1 c ++ PyFlat.put a) ++ PyFlat.put b
    rw [ih, List.append_assoc]
/-- a read call as it lies in the heap -/
def ItAt (H0 H : Hp) (fo : Addr) (v : V) (c : List (List Int)) : Prop := ∃ (t ga : Addr) (k : Nat) (a r : List Int), v = .ref t ∧ Raw c k a r ∧ H0 t = none ∧ H0 ga = none ∧ t ≠ fo ∧ ga ≠ fo ∧ H t = some (.tup [.str (nm k), .ref ga]) ∧ H ga = some (.lst ((a ++ r).map V.int))
/-- the list of calls read so far -/
def Items (H0 H : Hp) (fo : Addr) (done : List (List (List Int))) : Prop := ∃ vs : List V, H fo = some (.lst vs) ∧ vs.length = done.length ∧ ∀ (i : Nat) (c : List (List Int)), done[i]? = some c → ∃ v, vs[i]? = some v ∧ ItAt H0 H fo v c
theorem ItAt.keep {H0 H H' : Hp} {fo : Addr} {v : V} {c : List (List Int)} (x : ItAt H0 H fo v c) (k : ∀ b o, H b = some o → b ≠ fo → H0 b = none → (∀ ps, o ≠ HO.tbl ps) → (∀ C dx fs, o ≠ HO.ins C dx fs) → H' b = some o) : ItAt H0 H' fo v c := by
  obtain ⟨t, ga, kk, a, r, h1, h2, h3, h4, h5, h5b, h6, h7⟩ := x
  exact ⟨t, ga, kk, a, r, h1, h2, h3, h4, h5, h5b, k _ _ h6 h5 h3 (fun _ z => by cases z) (fun _ _ _ z => by cases z), k _ _ h7 h5b h4 (fun _ z => by cases z) (fun _ _ _ z => by cases z)⟩
abbrev sSpl : Stmt := top 64
theorem scSpl : FnScope ["numbers", "found", "at", "name", "start", "given"] ["numbers"] (defScope sSpl) := ⟨rfl, rfl, rfl, by decide +kernel, rfl, by decide +kernel, by decide +kernel⟩
/-- the written tables of spelling -/
structure Pn (w : World) (K : PySem.W.Frag) (mg : Str → Option Value) (DP aN aW : Addr) : Prop where
  gP : mg "PLAIN" = some (.ref DP)
  gN : mg "NAMES" = some (.ref aN)
  gW : mg "WITH_ROW" = some (.ref aW)
  dP : ∃ es n, KDict K w DP es n
  at_ : ∀ c, c ≤ 21 → ∃ r, PySem.W.nsIn K DP (nm c) = some r ∧ (∀ u, r = some u → RelV (.int (pl c : Nat)) u) ∧ (r = none → pl c = 0)
  tN : ∀ H, SqT K H aN (NMS.map V.str)
  tW : ∀ H, SqT K H aW [.str "told", .str "least"]
theorem nm_at : ∀ k, k ≤ 21 → (NMS.map V.str)[k]? = some (V.str (nm k)) := by decide +kernel
theorem in_row : ∀ k, k ≤ 21 → inV (.str (nm k)) [V.str "told", V.str "least"] = decide (rwn k = 1) := by decide +kernel
theorem len_put : ∀ cs : List (List (List Int)), (∀ c ∈ cs, PyFlat.okCall PyKrdk.shape c) → cs.length ≤ (PyFlat.put cs).length
  | [], _ => Nat.le_refl _
  | c :: cs, h => by
    have ih := len_put cs fun d hd => h d (List.mem_cons_of_mem _ hd)
    obtain ⟨k, a, r, R⟩ := raw_of (h c List.mem_cons_self)
    show cs.length + 1 ≤ (PyFlat.put1 c ++ PyFlat.put cs).length
    rw [R.flat, List.length_append, List.length_cons]
    omega
def spSpl (K : PySem.W.Frag) : Sp := fun vs H Q _ => ∃ (a : Addr) (cs : List (List (List Int))), vs = [.ref a] ∧ SqL K H a ((PyFlat.put cs).map V.int) ∧ (∀ c ∈ cs, PyFlat.okCall PyKrdk.shape c) ∧ (PyFlat.put cs).length ≤ 10400 ∧
  ∀ (H' : Hp) (p : Addr), Same H H' → H p = none → Items H H' p cs → Q (.ref p) H'
section
variable {P : Program} {w : World} {K : PySem.W.Frag} {mg : Str → Option Value} {base : Heap} {DP aN aW : Addr}
theorem ok_spl (B : Bn mg) {f : Addr} {fd : FuncData} (F : Fun K "spelled" "spelled" sSpl f fd) (W : Pn w K mg DP aN aW) : FnOk P w K mg base CX0 1 f fd ["numbers"] (spSpl K) := by
  obtain ⟨es, n, dP⟩ := W.dP
  refine F.ok scSpl (fun vs H Q E h => ?_) (fun cdv A outer s H vs Q E hr h => ⟨_, pss_cons (ps_set (i := 1) scSpl.nd rfl (.inl rfl) (pe_lst pa_nil))
    (pss_cons (ps_set (i := 2) scSpl.nd rfl (.inl rfl) pe_int)
    (pss_cons (ps_while PassesOwn.never (pt_cmpR op_lt (pv 2) (pe_callB call_len_seq (by rfl) B.len PySem.boot_len (pa_cons (pv 0) pa_nil)) (nomark _))
      (pss_cons (ps_set (i := 3) scSpl.nd rfl (.inl rfl) (pe_ix ix_tup (pe_glob (v := .ref aN) rfl W.gN rfl) (pe_ix ix_list (pv 0) (pv 2) (fun _ _ => rfl)) (fun _ _ => rfl)))
      (pss_cons (ps_set (i := 4) scSpl.nd rfl (.inl rfl) (pe_op op_add (pv 2) pe_int))
      (pss_cons (ps_set (i := 2) scSpl.nd rfl (.inl rfl) (pe_op op_add (pv 4) (pe_kget dP (pe_glob (v := .ref DP) rfl W.gP rfl) (pv 3) pe_int ⟨rfl, rfl, rfl, rfl⟩)))
      (pss_cons (ps_set (i := 5) scSpl.nd rfl (.inl rfl) (pe_slice sl_list (pv 0) (po_some (pv 4)) (po_some (pv 2))))
      (pss_cons (ps_if (pt_cmpR op_in_seq (pv 3) (pe_glob (v := .ref aW) rfl W.gW rfl) rfl)
        (pss_cons (ps_set (i := 4) scSpl.nd rfl (.inl rfl) (pe_op op_add (pv 2) pe_int))
        (pss_cons (ps_set (i := 2) scSpl.nd rfl (.inl rfl) (pe_op op_add (pv 4) (pe_ix ix_list (pv 0) (pv 2) (fun _ _ => rfl))))
        (pss_one (ps_set (i := 5) scSpl.nd rfl (.inl rfl) (pe_op op_cat (pv 5) (pe_slice sl_list (pv 0) (po_some (pv 4)) (po_some (pv 2)))))))) pss_nil)
      (pss_one (ps_expr (pe_bm PySem.F.plainAttrs_list PySem.F.slot_list_append PySem.F.type_list_append mt_append (pv 1) (pa_cons (pe_tup (pa_cons (pv 3) (pa_cons (pv 5) pa_nil))) pa_nil))))))))))
    (pss_one (ps_ret (pv 1))))), ?_⟩)
  · obtain ⟨a, cs, rfl, _⟩ := h
    rfl
  · obtain ⟨a, cs, rfl, hS, hok, hlen, k⟩ := h
    generalize hl : PyFlat.put cs = l at hS hlen
    refine ⟨by show 0 ≤ sizeLine; decide, fun fo hfo => ?_⟩
    refine while_by (fun σ H' => ∃ (done rest : List (List (List Int))) (v3 v4 v5 : Option V), cs = done ++ rest ∧ σ = [some (.ref a), some (.ref fo), some (.int ((PyFlat.put done).length : Nat)), v3, v4, v5] ∧ Same H H' ∧ Items H H' fo done)
      (fun σ _ => match σ with | [_, _, some (.int b), _, _, _] => (l.length - b.toNat) | _ => 0) ⟨[], cs, none, none, none, rfl, rfl, Same.upd hfo, [], upd_same, rfl, fun i c z => by simp at z⟩ ?_
      (fun σ H Q Q' hq ⟨v, e, v0, e0, p, ys, h1, h2, i, j, h3, h4, k, ek, h⟩ => ⟨v, e, v0, e0, p, ys, h1, h2, i, j, h3, h4, k, ek, hq _ _ h⟩)
    rintro σ H1 ⟨done, rest, v3, v4, v5, hcs, rfl, s1, vs, hvs, hvl, hit⟩
    refine ⟨_, rfl, _, rfl, a, _, rfl, .inl (s1.seq hS), _, _, rfl, rfl, _, rfl, ?_⟩
    rw [List.length_map]
    have hput : l = PyFlat.put done ++ PyFlat.put rest := by rw [← hl, hcs, put_app]
    cases rest with
    | nil =>
      have e : l = PyFlat.put done := by
        rw [hput]
        exact List.append_nil _
      refine cond_f (decide_eq_false (by rw [e]; omega)) ⟨_, rfl, k H1 fo s1 hfo ?_⟩
      rw [hcs, List.append_nil]
      exact ⟨vs, hvs, hvl, hit⟩
    | cons c rest =>
      obtain ⟨kk, ca, cr, R⟩ := raw_of (hok c (by rw [hcs]; exact List.mem_append_right _ List.mem_cons_self))
      have hk := R.k21
      have hput2 : l = PyFlat.put done ++ ((kk : Int) :: (ca ++ ((if rwn kk = 1 then (cr.length : Int) :: cr else []) ++ PyFlat.put rest))) := by
        rw [hput]
        show PyFlat.put done ++ (PyFlat.put1 c ++ PyFlat.put rest) = _
        rw [R.flat, List.cons_append, List.append_assoc]
      have hdl : (PyFlat.put (done ++ [c])).length = (PyFlat.put done).length + (1 + ca.length + (if rwn kk = 1 then (cr.length : Int) :: cr else []).length) := by
        rw [put_app, List.length_append]
        congr 1
        show (PyFlat.put1 c ++ []).length = _
        rw [List.append_nil, R.flat, List.length_cons, List.length_append]
        omega
      have hll : l.length = (PyFlat.put done).length + (1 + ca.length + (if rwn kk = 1 then (cr.length : Int) :: cr else []).length) + (PyFlat.put rest).length := by
        rw [hput2]
        simp only [List.length_append, List.length_cons]
        omega
      have hla := R.la
      refine cond_t (decide_eq_true (by omega)) ?_
      have fin : ∀ (H4 : Hp) (ga : Addr) (w4 : Option V), Same H H4 → H ga = none → ga ≠ fo → H4 fo = some (.lst vs) → H4 ga = some (.lst ((ca ++ cr).map V.int)) → (∀ (i : Nat) (c : List (List Int)), done[i]? = some c → ∃ v, vs[i]? = some v ∧ ItAt H H4 fo v c) →
          tDrop (tBM K "list" rAppend (tVar 1) (tCons (tTup (tCons (tVar 3) (tCons (tVar 5) tNil))) tNil)) { nx := fun σ' H' => (∃ (done rest : List (List (List Int))) (v3 v4 v5 : Option V), cs = done ++ rest ∧ σ' = [some (.ref a), some (.ref fo), some (.int ((PyFlat.put done).length : Nat)), v3, v4, v5] ∧ Same H H' ∧ Items H H' fo done) ∧
              (match σ' with | [_, _, some (.int b), _, _, _] => (l.length - b.toNat) | _ => 0) < l.length - (((PyFlat.put done).length : Nat) : Int).toNat, rt := Q }
            [some (.ref a), some (.ref fo), some (.int ((PyFlat.put (done ++ [c])).length : Nat)), some (.str (nm kk)), w4, some (.ref ga)] H4 := by
        intro H4 ga w4 s4 hga0 hgf hfo4 hga4 hit4
        have hcsl : done.length ≤ l.length := by
          have := len_put done fun c' hc' => hok c' (by rw [hcs]; exact List.mem_append_left _ hc')
          omega
        refine ⟨_, rfl, .inl ⟨rfl, _, SqL.of hfo4⟩, _, rfl, _, rfl, by show 2 ≤ sizeLine; decide, fun t ht => ?_⟩
        have s5 : Same H4 (upd H4 t (.tup [.str (nm kk), .ref ga])) := Same.upd ht
        have ht0 : H t = none := s4.free ht
        have htf : t ≠ fo := (ne_of_none hfo4 ht).symm
        refine ⟨fo, _, _, rfl, rfl, s5 _ _ hfo4, Nat.lt_of_le_of_lt (Nat.le_of_eq hvl) (Nat.lt_of_le_of_lt hcsl (Nat.lt_of_le_of_lt hlen (by decide))), ?_⟩
        have keepB : ∀ b o, H4 b = some o → b ≠ fo → upd (upd H4 t (.tup [.str (nm kk), .ref ga])) fo (.lst (vs ++ [.ref t])) b = some o := fun b o e n => by
          rw [upd_ne n]
          exact s5 b o e
        refine ⟨⟨done ++ [c], rest, _, _, _, by rw [hcs, List.append_assoc]; rfl, rfl, fun b o e => keepB b o (s4 b o e) (ne_of_none e hfo), vs ++ [.ref t], upd_same, by simp [hvl], fun i c' hc' => ?_⟩, ?_⟩
        · by_cases hi : i < done.length
          · rw [List.getElem?_append_left hi] at hc'
            obtain ⟨v, g1, g2⟩ := hit4 i c' hc'
            exact ⟨v, by rw [List.getElem?_append_left (by omega)]; exact g1, g2.keep fun b o e n _ _ _ => keepB b o e n⟩
          · rw [List.getElem?_append_right (by omega)] at hc'
            have hi0 : i - done.length = 0 := by
              have := (List.getElem?_eq_some_iff.mp hc').1
              simp at this
              omega
            rw [hi0] at hc'
            obtain rfl : c = c' := Option.some.inj hc'
            refine ⟨.ref t, by rw [List.getElem?_append_right (by omega), hvl, hi0] <;> rfl, t, ga, kk, ca, cr, rfl, R, ht0, hga0, htf, hgf, ?_, keepB _ _ hga4 hgf⟩
            rw [upd_ne htf, upd_same]
        · show l.length - (((PyFlat.put (done ++ [c])).length : Nat) : Int).toNat < _
          omega
      obtain ⟨pr, hp1, hp2, hp3⟩ := W.at_ kk hk
      refine ⟨_, rfl, _, rfl, a, _, _, .int kk, rfl, rfl, s1.seq hS, at_mid hput2 rfl, aN, _, _, .str (nm kk), rfl, rfl, W.tN _, atI_nat (nm_at kk hk), ?_⟩
      refine ⟨_, rfl, _, _, rfl, rfl, _, rfl, _, rfl, nm kk, pr, .int (pl kk : Nat), rfl, hp1, hp2, fun z => by rw [hp3 z] <;> rfl, _, _, rfl, rfl, ?_⟩
      refine ⟨_, rfl, _, rfl, _, rfl, _, rfl, _, rfl, a, _, rfl, s1.seq hS, fun g1 hg1 => ?_⟩
      have hA : l = (PyFlat.put done ++ [(kk : Int)]) ++ (ca ++ ((if rwn kk = 1 then (cr.length : Int) :: cr else []) ++ PyFlat.put rest)) := by
        rw [hput2, List.append_assoc] <;> rfl
      have hc1 : cutV (l.map V.int) (some ((((PyFlat.put done).length : Nat) : Int) + 1)) (some ((((PyFlat.put done).length : Nat) : Int) + 1 + ((pl kk : Nat) : Int))) = ca.map V.int :=
        cut_mid hA (by rw [List.length_append]; rfl) (by rw [List.length_append, hla]; show _ = (((PyFlat.put done).length + 1 + pl kk : Nat) : Int); omega)
      rw [hc1] at *
      have s2 : Same H1 (upd H1 g1 (.lst (ca.map V.int))) := Same.upd hg1
      have g10 : H g1 = none := s1.free hg1
      have g1f : g1 ≠ fo := (ne_of_none hvs hg1).symm
      refine ⟨_, rfl, aW, _, rfl, .inr (W.tW _), rfl, rfl, _, rfl, ?_⟩
      show if inV (.str (nm kk)) [V.str "told", V.str "least"] = true then _ else _
      rw [in_row kk hk]
      by_cases hrw : rwn kk = 1
      · rw [if_pos hrw] at hdl hll hput2 hA
        refine cond_t (decide_eq_true hrw) ?_
        have hB : l = (PyFlat.put done ++ (kk : Int) :: ca) ++ ((cr.length : Int) :: (cr ++ PyFlat.put rest)) := by
          rw [hput2]
          simp
        have hC : l = (PyFlat.put done ++ (kk : Int) :: (ca ++ [(cr.length : Int)])) ++ (cr ++ PyFlat.put rest) := by
          rw [hput2]
          simp
        refine ⟨_, rfl, _, _, rfl, rfl, ?_⟩
        refine ⟨_, rfl, _, rfl, _, rfl, a, _, _, .int (cr.length : Nat), rfl, rfl, (s1.trans s2).seq hS, at_mid hB ?_, _, _, rfl, rfl, ?_⟩
        · rw [List.length_append, List.length_cons, hla]
          show (((PyFlat.put done).length : Nat) : Int) + 1 + ((pl kk : Nat) : Int) = _
          omega
        refine ⟨_, rfl, _, rfl, _, rfl, _, rfl, _, rfl, _, rfl, a, _, rfl, (s1.trans s2).seq hS, fun g2 hg2 => ?_⟩
        have hc2 : cutV (l.map V.int) (some ((((PyFlat.put done).length : Nat) : Int) + 1 + ((pl kk : Nat) : Int) + 1)) (some ((((PyFlat.put done).length : Nat) : Int) + 1 + ((pl kk : Nat) : Int) + 1 + ((cr.length : Nat) : Int))) = cr.map V.int :=
          cut_mid hC (by simp only [List.length_append, List.length_cons, List.length_nil, hla]; omega) (by simp only [List.length_append, List.length_cons, List.length_nil, hla]; omega)
        have s3 : Same (upd H1 g1 (.lst (ca.map V.int))) (upd (upd H1 g1 (.lst (ca.map V.int))) g2 (.lst (cr.map V.int))) := Same.upd hg2
        show rCat (.ref g1) (.ref g2) (upd (upd H1 g1 (.lst (ca.map V.int))) g2 (.lst (cutV (l.map V.int) (some ((((PyFlat.put done).length : Nat) : Int) + 1 + ((pl kk : Nat) : Int) + 1)) (some ((((PyFlat.put done).length : Nat) : Int) + 1 + ((pl kk : Nat) : Int) + 1 + ((cr.length : Nat) : Int)))))) _
        rw [hc2]
        refine ⟨g1, g2, _, _, rfl, rfl, s3 _ _ upd_same, upd_same, ?_, fun g3 hg3 => ?_⟩
        · rw [List.length_map, List.length_map]
          rw [List.length_cons] at hll
          exact size_small (by omega)
        rw [← List.map_append]
        have s4 : Same (upd (upd H1 g1 (.lst (ca.map V.int))) g2 (.lst (cr.map V.int))) (upd (upd (upd H1 g1 (.lst (ca.map V.int))) g2 (.lst (cr.map V.int))) g3 (.lst ((ca ++ cr).map V.int))) := Same.upd hg3
        have sA : Same H1 (upd (upd (upd H1 g1 (.lst (ca.map V.int))) g2 (.lst (cr.map V.int))) g3 (.lst ((ca ++ cr).map V.int))) := (s2.trans s3).trans s4
        have g30 : H1 g3 = none := (s2.trans s3).free hg3
        have eat : (((PyFlat.put done).length : Nat) : Int) + 1 + ((pl kk : Nat) : Int) + 1 + ((cr.length : Nat) : Int) = (((PyFlat.put (done ++ [c])).length : Nat) : Int) := by
          rw [hdl, List.length_cons]
          omega
        have done2 := fin _ g3 (some (.int ((((PyFlat.put done).length : Nat) : Int) + 1 + ((pl kk : Nat) : Int) + 1))) (s1.trans sA) (s1.free g30) (ne_of_none hvs g30).symm (sA _ _ hvs) upd_same (fun i c hc => by
          obtain ⟨v, q1, q2⟩ := hit i c hc
          exact ⟨v, q1, q2.keep fun b o e _ _ _ _ => sA b o e⟩)
        rw [← eat] at done2
        exact done2
      · have hcr : cr = [] := R.lr (by have := rwn_01 kk; omega)
        rw [if_neg hrw] at hdl hll hput2 hA
        subst hcr
        refine cond_f (decide_eq_false hrw) ?_
        have eat : (((PyFlat.put done).length : Nat) : Int) + 1 + ((pl kk : Nat) : Int) = (((PyFlat.put (done ++ [c])).length : Nat) : Int) := by
          rw [hdl, List.length_nil]
          omega
        have done2 := fin _ g1 (some (.int ((((PyFlat.put done).length : Nat) : Int) + 1))) (s1.trans s2) g10 g1f (s2 _ _ hvs) (by rw [List.append_nil]; exact upd_same) (fun i c hc => by
          obtain ⟨v, q1, q2⟩ := hit i c hc
          exact ⟨v, q1, q2.keep fun b o e _ _ _ _ => s2 b o e⟩)
        rw [← eat] at done2
        exact done2
end
end Bw
namespace Bw
open PySem PySem.Spec PyProof.Rows L2 LamX NdefX
/-! ### the calls one after another -/
def finS (st : Krdk.Abs) (cs : List (List (List Int))) : Krdk.Abs := cs.foldl (fun s c => (KrdkNeutral.step s c).1) st
def accS (st : Krdk.Abs) (cs : List (List (List Int))) : List Int := PyFlat.told (PyFlat.played KrdkNeutral.step st cs)
theorem finS_more (st : Krdk.Abs) (cs : List (List (List Int))) (c : List (List Int)) : finS st (cs ++ [c]) = (KrdkNeutral.step (finS st cs) c).1 := by
  unfold finS
  rw [List.foldl_append] <;> rfl
theorem accS_app : ∀ (cs ds : List (List (List Int))) (st : Krdk.Abs), accS st (cs ++ ds) = accS st cs ++ accS (finS st cs) ds
  | [], ds, st => rfl
  | c :: cs, ds, st => by
    have ih := accS_app cs ds (KrdkNeutral.step st c).1
    show ((((KrdkNeutral.step st c).2.length : Int) :: (KrdkNeutral.step st c).2) ++ accS (KrdkNeutral.step st c).1 (cs ++ ds)) = ((((KrdkNeutral.step st c).2.length : Int) :: (KrdkNeutral.step st c).2) ++ accS (KrdkNeutral.step st c).1 cs) ++ accS (finS (KrdkNeutral.step st c).1 cs) ds
    rw [ih, List.append_assoc]
theorem accS_more (st : Krdk.Abs) (cs : List (List (List Int))) (c : List (List Int)) : accS st (cs ++ [c]) = accS st cs ++ (((KrdkNeutral.step (finS st cs) c).2.length : Int) :: (KrdkNeutral.step (finS st cs) c).2) := by
  rw [accS_app]
  congr 1
  show ((((KrdkNeutral.step (finS st cs) c).2.length : Int) :: (KrdkNeutral.step (finS st cs) c).2) ++ []) = _
  rw [List.append_nil]
theorem step_is {st : Krdk.Abs} (hs : WFs st) {c : List (List Int)} {k : Nat} {a r : List Int} (R : Raw c k a r) : KrdkNeutral.step st c = resp st k (a ++ r) := by
  obtain ⟨e1, e2⟩ := resp_act hs R.k21 (a ++ r)
  show ((Krdk.act st (KrdkNeutral.call c)).1, KrdkNeutral.told (Krdk.act st (KrdkNeutral.call c)).2) = _
  rw [R.call, e1, e2]
theorem finS_wf : ∀ (cs : List (List (List Int))) (st : Krdk.Abs), WFs st → (∀ c ∈ cs, PyFlat.okCall PyKrdk.shape c) → WFs (finS st cs)
  | [], _, h, _ => h
  | c :: cs, st, h, ok => by
    obtain ⟨k, a, r, R⟩ := raw_of (ok c List.mem_cons_self)
    refine finS_wf cs _ ?_ fun d hd => ok d (List.mem_cons_of_mem _ hd)
    show WFs (KrdkNeutral.step st c).1
    rw [step_is h R]
    exact resp_wf h
/-- what is asked of the calls -/
structure Asked (cs : List (List (List Int))) : Prop where
  ok : ∀ c ∈ cs, PyFlat.okCall PyKrdk.shape c
  pre : ∀ c ∈ cs, ∀ k a r, Raw c k a r → Pre (need k) (a ++ r)
  len : (PyFlat.put cs).length ≤ 10400
  short : (accS none cs).length ≤ 10000000
abbrev sAns : Stmt := top 66
theorem scAns : FnScope ["calls", "line", "given_back", "name", "given", "numbers"] ["calls"] (defScope sAns) := ⟨rfl, rfl, rfl, by decide +kernel, rfl, by decide +kernel, by decide +kernel⟩
def spAns (K : PySem.W.Frag) (T : List (Addr × Str)) : Sp := fun vs H Q _ => ∃ (a : Addr) (cs : List (List (List Int))), vs = [.ref a] ∧ SqL K H a ((PyFlat.put cs).map V.int) ∧ Asked cs ∧ Tabs T H ∧
  ∀ (H' : Hp) (p : Addr), H' p = some (.lst ((accS none cs).map V.int)) → Q (.ref p) H'
theorem put_tabs {T : List (Addr × Str)} {H : Hp} {L : Addr} {xs ys : List V} (t : Tabs T H) (h : H L = some (.lst xs)) : Tabs T (upd H L (.lst ys)) := fun p hp => by
  obtain ⟨ps, h1, h2, h3⟩ := t p hp
  refine ⟨ps, by rw [upd_ne (ne_of h1 h (fun z => by cases z))]; exact h1, h2, fun pos cv hc => ?_⟩
  obtain ⟨c, e1, e2⟩ := h3 pos cv hc
  exact ⟨c, e1, by rw [upd_ne (ne_of e2 h (fun z => by unfold CodeO at z; cases z))]; exact e2⟩
theorem acc_le {cs ds : List (List (List Int))} {n : Nat} (h : (accS none (cs ++ ds)).length ≤ n) : (accS none cs).length ≤ n := by
  rw [accS_app, List.length_append] at h
  omega
section
variable {P : Program} {w : World} {K : PySem.W.Frag} {mg : Str → Option Value} {base : Heap} {C CB CR CN : Addr} {T : List (Addr × Str)}
theorem ok_ans (B : Bn mg) {f fI fR : Addr} {fd fdI fdR : FuncData} (F : Fun K "answers" "answers" sAns f fd) (L : Ln K mg C) (M : Mk K C fI) (GI : FnOk P w K mg base CX0 1 fI fdI ["self"] (spIni C)) (bI : Binds K fdI ["self"] [])
    (mR : Meth K C "reply" fR) (GR : FnOk P w K mg base CX0 8 fR fdR ["self", "name", "given"] (spRep K T C)) (bR : Binds K fdR ["self", "name", "given"] []) (Gs : Hs P w K mg base CX0 1 "spelled" (spSpl K)) :
    FnOk P w K mg base CX0 9 f fd ["calls"] (spAns K T) := by
  refine F.ok scAns (fun vs H Q E h => ?_) (fun cdv A outer s H vs Q E hr h => ⟨_, pss_cons (ps_set (i := 1) scAns.nd rfl (.inl rfl) (pe_make0 M GI (hr.mono (by decide)) rfl L.gC bI .nil pass0))
    (pss_cons (ps_set (i := 2) scAns.nd rfl (.inl rfl) (pe_lst pa_nil))
    (pss_cons (ps_for PassesOwn.never rfl (pi_list (pe_h Gs hr (by decide) (pa_cons (pv 0) pa_nil))) (pg_tup rfl (pgs_cons (pg_name (i := 3) scAns.nd rfl (.inl rfl)) (pgs_cons (pg_name (i := 4) scAns.nd rfl (.inl rfl)) pgs_nil)))
      (pss_cons (ps_set (i := 5) scAns.nd rfl (.inl rfl) (pe_meth (E := E0) (pv 1) L.cl mR GR hr bR .nil pass0 (pa_cons (pv 3) (pa_cons (pv 4) pa_nil))))
      (pss_cons (ps_expr (pe_bm PySem.F.plainAttrs_list PySem.F.slot_list_append PySem.F.type_list_append mt_append (pv 2) (pa_cons (pe_callB call_len_seq (by rfl) B.len PySem.boot_len (pa_cons (pv 5) pa_nil)) pa_nil)))
      (pss_one (ps_expr (pe_bm PySem.F.plainAttrs_list PySem.F.slot_list_extend PySem.F.type_list_extend mt_extend (pv 2) (pa_cons (pv 5) pa_nil)))))))
    (pss_one (ps_ret (pv 2))))), ?_⟩)
  · obtain ⟨a, cs, rfl, _⟩ := h
    rfl
  · obtain ⟨a, cs, rfl, hS, hA, hT, k⟩ := h
    intro x dx nx nd ne
    refine ⟨x, dx, rfl, upd_same, fun H1 l1 b1 => ⟨rfl, ?_⟩⟩
    have s1 : Same H H1 := Same.made nx nd b1
    refine ⟨by show 0 ≤ sizeLine; decide, fun Lb hL => ?_⟩
    have s2 : Same H1 (upd H1 Lb (.lst [])) := Same.upd hL
    have xnone := nx
    refine ⟨_, rfl, a, cs, rfl, (s1.trans s2).seq hS, hA.ok, hA.len, fun H3 p s3 hp0 hit => ?_⟩
    obtain ⟨vs, hvs, hvl, hit⟩ := hit
    obtain ⟨dx2, ps0, hx, hps0, _⟩ := l1
    have hx2 : upd H1 Lb (.lst []) x = some (.ins C dx2 [(("says" : Str), V.ref ps0)]) := s2 _ _ hx
    have hx3 := s3 _ _ hx2
    have hL3 : H3 Lb = some (.lst []) := s3 _ _ upd_same
    have nLx : Lb ≠ x := fun e => by
      rw [e, hx] at hL
      cases hL
    have npx : p ≠ x := (ne_of_none hx2 hp0).symm
    have npL : p ≠ Lb := fun e => by
      rw [e, upd_same] at hp0
      cases hp0
    refine ⟨p, rfl, ⟨_, SqL.of hvs⟩, for_list (K := K) (a := p) (xs := vs) (fun i σ H' => (∃ v3 v4 v5 : Option V, σ = [some (.ref a), some (.ref x), some (.ref Lb), v3, v4, v5]) ∧ LineAt C H' x (finS none (cs.take i)) (fun b => b = Lb) ∧ H' Lb = some (.lst ((accS none (cs.take i)).map V.int)) ∧ Tabs T H' ∧
        (∀ b o, H3 b = some o → b ≠ x → b ≠ Lb → (∀ ps, o ≠ HO.tbl ps) → H' b = some o))
      ⟨⟨none, none, none, rfl⟩, ⟨dx2, ps0, hx3, s3 _ _ (s2 _ _ hps0), ne_of_none hps0 hL⟩, hL3, hT.ext ((s1.trans s2).trans s3), fun b o e _ _ _ => e⟩ (fun i σ H' _ z => SqL.of (z.2.2.2.2 _ _ hvs npx npL fun _ q => by cases q)) (fun i v σ H' hi z => ?_) (fun σ H' z => ?_)⟩
    · obtain ⟨⟨v3, v4, v5, rfl⟩, hl, hLb, hT2, keep⟩ := z
      have hlt : i < cs.length := by
        have := (List.getElem?_eq_some_iff.mp hi).1
        omega
      have hc : cs[i]? = some cs[i] := List.getElem?_eq_getElem hlt
      obtain ⟨v', hv', t, ga, kk, ca, cr, e1, R, ht0, hga0, _, _, ht, hga⟩ := hit i cs[i] hc
      rw [hi] at hv'
      cases hv'
      subst e1
      have hmem : cs[i] ∈ cs := List.getElem_mem hlt
      have ntx : t ≠ x := (ne_of_none hx2 ht0).symm
      have ntL : t ≠ Lb := fun e => by
        rw [e, upd_same] at ht0
        cases ht0
      have ngx : ga ≠ x := (ne_of_none hx2 hga0).symm
      have ngL : ga ≠ Lb := fun e => by
        rw [e, upd_same] at hga0
        cases hga0
      have ht2 := keep _ _ ht ntx ntL fun _ q => by cases q
      have hga2 := keep _ _ hga ngx ngL fun _ q => by cases q
      obtain ⟨dx3, ps3, hx4, hps3, hps3L⟩ := hl
      have hwf : WFs (finS none (cs.take i)) := finS_wf _ _ (fun f e => by cases e) fun c hc => hA.ok c (List.mem_of_mem_take hc)
      have etake : cs.take (i + 1) = cs.take i ++ [cs[i]] := List.take_succ_eq_append_getElem hlt
      have hstep := step_is hwf R
      refine ⟨t, _, rfl, SqT.of ht2, rfl, _, _, rfl, _, _, rfl, rfl, ?_⟩
      refine ⟨_, rfl, x, dx3, _, rfl, hx4, look_no (by decide +kernel), _, rfl, _, rfl, x, ga, kk, finS none (cs.take i), ca ++ cr, (fun b => b = Lb), rfl, R.k21, hwf, ⟨dx3, ps3, hx4, hps3, hps3L⟩, (fun b e => ⟨_, (congrArg H' (show b = Lb from e)).trans hLb⟩), SqL.of hga2, hA.pre _ hmem kk ca cr R, hT2, fun H4 q l4 f4 t4 n4 hq => ?_⟩
      rw [← hstep] at l4 hq
      rw [← finS_more, ← etake] at l4
      have hL4 : H4 Lb = some (.lst ((accS none (cs.take i)).map V.int)) := f4 _ _ hLb nLx fun _ q => by cases q
      have nqL : q ≠ Lb := fun e => by
        obtain ⟨ps, hps⟩ := n4 _ (by rw [e]; exact hLb)
        cases hps
      obtain ⟨dx5, ps5, hx5, hps5, npsL⟩ := l4
      have nqx : q ≠ x := ne_of hq hx5 (fun z => by cases z)
      have hacc : accS none (cs.take (i + 1)) = accS none (cs.take i) ++ (((KrdkNeutral.step (finS none (cs.take i)) cs[i]).2.length : Int) :: (KrdkNeutral.step (finS none (cs.take i)) cs[i]).2) := by
        rw [etake, accS_more]
      have hsz : (accS none (cs.take (i + 1))).length ≤ 10000000 := by
        have h2 : cs = cs.take (i + 1) ++ cs.drop (i + 1) := (List.take_append_drop _ _).symm
        have h3 := hA.short
        rw [h2] at h3
        exact acc_le h3
      have hsz2 := hsz
      rw [hacc, List.length_append, List.length_cons] at hsz2
      have hline : 10000000 < sizeLine := by decide
      refine ⟨_, rfl, .inl ⟨rfl, _, SqL.of hL4⟩, _, rfl, q, _, rfl, .inl (SqL.of hq), Lb, _, _, rfl, rfl, hL4, by rw [List.length_map]; omega, ?_⟩
      rw [List.length_map]
      refine ⟨_, rfl, .inl ⟨rfl, _, SqL.of upd_same⟩, _, rfl, Lb, q, _, _, rfl, rfl, upd_same, (upd_ne nqL).trans hq, by rw [List.length_append, List.length_map, List.length_map]; show _ + 1 + _ ≤ _; omega, ?_⟩
      rw [upd_upd]
      refine ⟨⟨_, _, _, rfl⟩, ⟨dx5, ps5, (upd_ne nLx.symm).trans hx5, (upd_ne npsL).trans hps5, npsL⟩, ?_, put_tabs t4 hL4, fun b o e n1 n2 n3 => ?_⟩
      · rw [upd_same, hacc, List.map_append, List.map_cons, List.append_assoc] <;> rfl
      · rw [upd_ne n2]
        exact f4 _ _ (keep b o e n1 n2 n3) n1 n3
    · obtain ⟨⟨v3, v4, v5, rfl⟩, hl, hLb, hT2, keep⟩ := z
      rw [hvl, List.take_length] at hLb
      exact ⟨_, rfl, k H' Lb hLb⟩
end
end Bw
namespace Bw
open PySem PySem.Spec PyProof.Rows L2 LamX
/-- what is known at the row's call: the argument's lists, the tables of code, empty -/
noncomputable def startH (K : PySem.W.Frag) (h : Heap) (A : List Addr) (cs : List (Addr × Addr)) : Hp := fun b => if b ∈ cs.map (·.2) then some (.tbl #[]) else argH K h A b
section
variable {P : Program} {w : World} {K : PySem.W.Frag} {h : Heap} {A : List Addr} {cs : List (Addr × Addr)}
theorem start_in {p : Addr × Addr} (hp : p ∈ cs) : startH K h A cs p.2 = some (.tbl #[]) := if_pos (List.mem_map.mpr ⟨p, hp, rfl⟩)
theorem start_no {b : Addr} (hb : b ∉ cs.map (·.2)) : startH K h A cs b = argH K h A b := if_neg hb
theorem start_tab (hT : ∀ p ∈ cs, h.get? p.2 = some { cls := .none, data := .fields #[] }) {b : Addr} (hb : b ∈ cs.map (·.2)) : h.get? b = some { cls := .none, data := .fields #[] } := by
  obtain ⟨p, hp, e⟩ := List.mem_map.mp hb
  rw [← e]
  exact hT p hp
theorem start_same (hT : ∀ p ∈ cs, h.get? p.2 = some { cls := .none, data := .fields #[] }) (ar : ∀ a ∈ A, ArgOb h A a) : Same (argH K h A) (startH K h A cs) := fun b u e => by
  refine (start_no fun hb => ?_).trans e
  have h1 := start_tab hT hb
  rcases argH_is ar e with ⟨_, vs, _, _, q⟩
  rcases q with ⟨h2, _⟩ | ⟨h2, _⟩ <;> (rw [h1] at h2; have z := congrArg Obj.cls (Option.some.inj h2); cases z)
/-- what is tracked at the start -/
theorem start_is (hT : ∀ p ∈ cs, h.get? p.2 = some { cls := .none, data := .fields #[] }) (ar : ∀ a ∈ A, ArgOb h A a) {b : Addr} {u : HO} (e : startH K h A cs b = some u) :
    (b ∈ cs.map (·.2) ∧ u = .tbl #[] ∧ h.get? b = some { cls := .none, data := .fields #[] }) ∨
    (b ∉ cs.map (·.2) ∧ K.lookup b = none ∧ ∃ o v, u = .frz o v ∧ h.get? b = some o ∧ ∃ x n, o.data = .seq x n) := by
  by_cases hb : b ∈ cs.map (·.2)
  · refine .inl ⟨hb, ?_, start_tab hT hb⟩
    exact (Option.some.inj ((show some (HO.tbl #[]) = startH K h A cs b from (if_pos hb).symm).trans e)).symm
  · rw [start_no hb] at e
    obtain ⟨hk, vs, _, _, q⟩ := argH_is ar e
    rcases q with ⟨g, eu⟩ | ⟨g, eu⟩
    · exact .inr ⟨hb, hk, _, _, eu, g, _, _, rfl⟩
    · exact .inr ⟨hb, hk, _, _, eu, g, _, _, rfl⟩
theorem start_free (hT : ∀ p ∈ cs, h.get? p.2 = some { cls := .none, data := .fields #[] }) (ar : ∀ a ∈ A, ArgOb h A a) {b : Addr} {o : Obj} (e : h.get? b = some o) (n1 : ∀ x n, o.data ≠ .seq x n) (n2 : o.data ≠ .fields #[]) : startH K h A cs b = none := by
  cases q : startH K h A cs b with
  | none => rfl
  | some u =>
    rcases start_is hT ar q with ⟨_, _, g⟩ | ⟨_, _, o2, v, _, g, x, n, d⟩
    · rw [e] at g
      cases g
      exact absurd rfl n2
    · rw [e] at g
      cases g
      exact absurd d (n1 x n)
end
theorem spec_tabs {P : Program} {w : World} {K : PySem.W.Frag} {mg mb : Str → Option Value} {k : Nat} {fa : Addr} {fd : FuncData} {ps : List Str} {sp : Sp} {s₁ : Shared} {vals : List Value} {ds : List PySem.W.WData} {R : PySem.W.WRecords} {cl : Str → Option Addr} {d0 : PySem.W.WData} {cs : List (Addr × Addr)}
    (KX : K.In s₁.heap) (hns : s₁.heap.Ns mainGlobals mg) (hb : s₁.heap.Ns builtinsNs mb) (hbb : ∀ x : Str, x ≠ "__name__" → mb x = bootBuiltins x) (hlim : s₁.heap.NoLimit) (hg : s₁.gens = #[])
    (hT : ∀ p ∈ cs, s₁.heap.get? p.2 = some { cls := .none, data := .fields #[] }) (nT : ∀ p ∈ cs, K.lookup p.2 = none) (hC : ∀ p ∈ cs, PySem.W.CodeHd s₁.heap p.1 p.2)
    (hbm : ∃ (bm : Addr) (ob : Obj), mg "__builtins__" = some (.ref bm) ∧ bm ≠ builtinsNs ∧ s₁.heap.get? bm = some ob ∧ ob.cls = .type "module" ∧ ob.dict = some builtinsNs ∧ ob.data = .plain)
    (hwl : PySem.W.WellAll w.params s₁.heap vals ds) (hpl : plWs ds = true) (hwt : ∀ d ∈ ds, d.weight ≤ 1048576) (hr : Room k callerA)
    (F : ∀ base : Heap, K.In base → base.Ns mainGlobals mg → (∀ p ∈ cs, TabB base mg p.1 p.2) → FnOk P w K mg base L2.CX0 k fa fd ps sp) (hbind : ∀ (s : Shared) (us : List Value), us.length = ps.length → BindsTo s fd ⟨us, []⟩ (ps.zip us)) (hlen : ds.length = ps.length)
    (hsp : ∀ (H0 H : Hp) (xs : List V), DwAll K H0 xs ds → Same H0 H → (∀ p ∈ cs, H p.2 = some (.tbl #[])) → sp xs H (fun v H' => Dw K H' v d0) fun _ _ _ => False) :
    codeAny (model P w) callerA (.call (.ref fa) ⟨vals, []⟩) (fun r s' => ∃ u as, r = .ok (.ret u) ∧ PySem.W.ReadsW R cl s'.heap u d0 as ∧ OldK s₁.heap s'.heap ∧ s'.os = s₁.os ∧ AllBare s'.gens) s₁ := by
  obtain ⟨A, ho, ar⟩ := area_all ds vals hwl hpl hwt
  have known := fun {b : Addr} {u : HO} (e : startH K s₁.heap A cs b = some u) => start_is (K := K) hT ar e
  have loose := fun {b : Addr} {o : Obj} (e : s₁.heap.get? b = some o) (n1 : ∀ x n, o.data ≠ .seq x n) (n2 : o.data ≠ .fields #[]) => start_free (K := K) hT ar e n1 n2
  have hok : HOk P w (startH K s₁.heap A cs) s₁.heap := fun b u e => by
    by_cases q : b ∈ cs.map (·.2)
    · rcases known e with ⟨_, eu, g⟩ | ⟨nq, _⟩
      · subst eu
        exact g
      · exact absurd q nq
    · rw [start_no q] at e
      exact (argH_ok ar b u e).stay (fun _ _ _ z => z) (fun c z => start_same hT ar c _ z) fun c xs z => start_same hT ar c _ z
  have hS := hsp (argH K s₁.heap A) (startH K s₁.heap A cs) (vals.map toV) (dw_all KX ar ds vals hwl hpl ho) (start_same hT ar) fun p hp => start_in hp
  have hV := vals_toV ho
  generalize hH : startH K s₁.heap A cs = H at known loose hok hS
  have lift : ∀ {b : Addr} {o : Obj}, s₁.heap.get? b = some o → H b = none → (hidT s₁.heap H).get? b = some o := fun e n => hidT_get e n
  have plain : ∀ {b : Addr} {o : Obj} {es : Array DictEntry} {ep : Nat}, s₁.heap.get? b = some o → o.data = .dict es ep → H b = none := fun e d => loose e (fun x n z => by rw [d] at z; cases z) fun z => by rw [d] at z; cases z
  have nsUp : ∀ {b : Addr} {m : Str → Option Value}, s₁.heap.Ns b m → (hidT s₁.heap H).Ns b m := fun ⟨o, es, ep, e, d, z⟩ => ⟨o, es, ep, lift e (plain e d), d, z⟩
  have free : ∀ b o, K.lookup b = some o → H b = none := fun b o e => by
    cases q : H b with
    | none => rfl
    | some u =>
      rcases known q with ⟨hb2, _, _⟩ | ⟨_, hk, _⟩
      · obtain ⟨p, hp, ep⟩ := List.mem_map.mp hb2
        rw [← ep, nT p hp] at e
        cases e
      · rw [hk] at e
        cases e
  have hKb : K.In (hidT s₁.heap H) := fun b o e => lift (KX b o e) (free b o e)
  have hM : L2.Mod K mg (hidT s₁.heap H) := ⟨hKb, nsUp hns, ⟨mb, nsUp hb, hbb⟩, let ⟨mc, z1, z2⟩ := hlim; ⟨mc, nsUp z1, z2⟩⟩
  have TB : ∀ p ∈ cs, TabB (hidT s₁.heap H) mg p.1 p.2 := fun p hp => by
    have hTp := hT p hp
    refine ⟨?_, ?_, fun z => ?_⟩
    · obtain ⟨o, us, file, tf, flags, tg, inF, text, tt, e1, r1, r2, r3, rest⟩ := hC p hp
      refine ⟨o, us, file, tf, flags, tg, inF, text, tt, lift e1 (loose e1 (fun x n z => by rw [r2] at z; cases z) fun z => ?_), r1, r2, r3, rest⟩
      rw [r2] at z
      cases z
      simp at r3
    · obtain ⟨bm, ob, b1, b2, b3, b4, b5, b6⟩ := hbm
      have nG : bm ≠ mainGlobals := fun q => by
        obtain ⟨o, es, ep, e, d, _⟩ := hns
        rw [q, e] at b3
        cases b3
        rw [d] at b6
        cases b6
      have nP : bm ≠ p.2 := fun q => by
        rw [q, hTp] at b3
        cases b3
        cases b6
      exact ⟨bm, ob, b1, b2, nG, nP, lift b3 (loose b3 (fun x n z => by rw [b6] at z; cases z) fun z => by rw [b6] at z; cases z), b4, b5, b6⟩
    · obtain ⟨o, es, ep, e, d, _⟩ := hns
      rw [z, hTp] at e
      cases e
      cases d
  have e0 : Env0 P w K mg (hidT s₁.heap H) callerA [] s₁ H := ⟨rfl, hM, fun b o e => of_hidT e, Nat.le_of_eq (hidT_size _ _), trivial, fun b z => absurd (show b ∈ ([] : List Addr) from z) (by simp), hok, .of_eq hg⟩
  have hl : vals.length = ps.length := (wellAll_len hwl).trans hlen
  refine codeAny_mono ((F _ hKb (nsUp hns) TB).run callerA [] s₁ H ⟨vals, []⟩ vals (vals.map toV) _ _ hr e0 (hbind s₁ vals hl) hV hS) fun r s' x => ?_
  cases r with
  | error e => exact False.elim x
  | ok fl =>
    cases fl with
    | next => exact False.elim x
    | brk => exact False.elim x
    | cont => exact False.elim x
    | ret u =>
      obtain ⟨v, H', os, bare, un, hok', rv, q⟩ := x
      have kept : ∀ b o, b ∉ cs.map (·.2) → s₁.heap.get? b = some o → s'.heap.get? b = some o := fun b o nb e => by
        cases z : H b with
        | none => exact un.keep b o e z (fun m => absurd (show b ∈ ([] : List Addr) from m) (by simp)) (by simp)
        | some u2 =>
          rcases known z with ⟨hb2, _⟩ | ⟨_, _, o2, v2, eu, g, _⟩
          · exact absurd hb2 nb
          · subst eu
            rw [e] at g
            cases g
            exact (hok' b _ (un.frzs b _ _ z)).1
      have grown : ∀ p ∈ cs, ∃ more : Array Value, s'.heap.get? p.2 = some { cls := .none, data := .fields more } := fun p hp => by
        obtain ⟨more, z⟩ := un.tbls p.2 #[] (by rw [← hH]; exact start_in hp)
        exact ⟨_, hok' p.2 _ z⟩
      have KX' : K.In s'.heap := fun b o e => kept b o (fun hb2 => by
        obtain ⟨p, hp, ep⟩ := List.mem_map.mp hb2
        rw [← ep, nT p hp] at e
        cases e) (KX b o e)
      obtain ⟨as, hrd⟩ := Dw.reads (R := R) (cl := cl) hok' KX' d0 v u q rv
      refine ⟨u, as, rfl, hrd, ⟨fun b o e => ?_, fun b o e => ?_⟩, os, bare⟩
      · by_cases hb2 : b ∈ cs.map (·.2)
        · obtain ⟨p, hp, ep⟩ := List.mem_map.mp hb2
          obtain ⟨more, hm⟩ := grown p hp
          subst ep
          rw [hT p hp] at e
          cases e
          exact .inr (.inl ⟨((hC p hp).tab (hT p hp)).isCodeTable, rfl, #[], more, rfl, by rw [Array.empty_append]; exact hm⟩)
        · exact .inl (kept b o hb2 e)
      · by_cases hb2 : b ∈ cs.map (·.2)
        · obtain ⟨p, hp, ep⟩ := List.mem_map.mp hb2
          obtain ⟨more, hm⟩ := grown p hp
          subst ep
          exact ⟨_, hm⟩
        · exact ⟨o, kept b o hb2 e⟩
/-- the row's end: as the layer's own for a row of a specification, with tables of code besides -/
theorem walk_tabs {r : PySem.W.OpenSpec} {k : Nat} {q : Program} {loose : List Str} {XP : (Str → Option Value) → Heap → Prop} {YP : World → Heap → Prop} {d : DefRec} {K : Params → PySem.W.Frag} {ps : List Str} {sp : PySem.W.Frag → List (Addr × Addr) → Sp}
    (hwell : r.wellSaid = true) (hdf : d.params.defaults = []) (hlen : r.args.length = ps.length) (hr : Room k callerA) (hY : ∀ (w : World) (h : Heap), YP w h → (K w.params).In h)
    (F : ∀ (w : World) (mean : ExcName → Option Value) (mg mb : Str → Option Value) (fa : Addr) (h : Heap), YP w h → (K w.params).In h → Top q (PySem.W.looseW q loose) mean mg mb h → mg d.name = some (.ref fa) →
      ∃ (cs : List (Addr × Addr)) (fd : FuncData), (∀ p ∈ cs, h.get? p.2 = some { cls := .none, data := .fields #[] }) ∧ (∀ p ∈ cs, (K w.params).lookup p.2 = none) ∧ (∀ p ∈ cs, PySem.W.CodeHd h p.1 p.2) ∧
        (∀ (s : Shared) (us : List Value), us.length = ps.length → BindsTo s fd ⟨us, []⟩ (ps.zip us)) ∧
        ∀ base : Heap, (K w.params).In base → base.Ns mainGlobals mg → (∀ p ∈ cs, TabB base mg p.1 p.2) → FnOk r.prog w (K w.params) mg base L2.CX0 k fa fd ps (sp (K w.params) cs))
    (hsp : ∀ (K : PySem.W.Frag) (cs : List (Addr × Addr)) (H0 H : Hp) (xs : List V) (a : PySem.W.Codec.denoteAll r.args), PySem.W.Codec.withinAll r.args a = true → PySem.W.Codec.app r.args r.asked a = true → DwAll K H0 xs (PySem.W.Codec.encAll r.args a) → Same H0 H → (∀ p ∈ cs, H p.2 = some (.tbl #[])) →
      sp K cs xs H (fun v H' => Dw K H' v (r.ret.enc (PySem.W.Codec.app r.args r.f a))) fun _ _ _ => False) :
    PySem.W.WalkOS q loose XP YP r d [] (fun f vs => PySem.call f vs) := by
  intro w s₀ s₁ mg mb G Y fa o pm cd doc dV kV hobj hdat hcode hD hmg hgens args vals as hpre hlay hrd hwl hlow
  obtain ⟨a, e1, e2⟩ := PySem.W.os_pre_some hpre
  obtain ⟨e3, hwi⟩ := PySem.W.Codec.encAll_of_decAll r.args args a e1
  subst e3
  have KX := hY w _ Y
  obtain ⟨cs, fd, hT, nT, hC, hbi, hF⟩ := F w _ mg mb fa _ Y KX G.T hmg
  have run := spec_tabs (R := []) (cl := classAt s₀.heap) (d0 := r.ret.enc (PySem.W.Codec.app r.args r.f a)) KX G.T.g G.T.b G.T.builtins G.T.nolimit hgens hT nT hC G.T.bmain hwl (pl_encAll _ _) (layable_weight hlay) hr hF hbi ((encAll_len _ _).trans hlen) fun H0 H xs z1 z2 z3 => hsp (K w.params) cs H0 H xs a hwi e2 z1 z2 z3
  refine PySem.W.enter_call (codeAny_mono run fun r' s' z => ?_)
  obtain ⟨u, as', rfl, h1, h2, h3, h4⟩ := z
  exact ⟨.inl ⟨u, _, as', rfl, fun _ => rfl, h1, (PySem.W.OpenSpec.post_iff hwell hwi _ _).mpr rfl, fun z => Bool.noConfusion (show false = true from z)⟩, h2, h3, h4⟩
end Bw
namespace Bw
open PySem PySem.Spec PyProof.Rows L2 LamX
theorem whole_id (c : List (List Int)) : PyKrdk.whole c = c := by
  unfold PyKrdk.whole
  split <;> rfl
theorem whole_map (cs : List (List (List Int))) : cs.map PyKrdk.whole = cs := by
  have e : PyKrdk.whole = id := funext whole_id
  rw [e, List.map_id]
theorem answers_is {l : List Int} {cs : List (List (List Int))} (h : PyFlat.calls PyKrdk.shape l.length l = some cs) : PyKrdk.answers l = accS none cs := by
  unfold PyKrdk.answers PyKrdk.calls
  rw [h]
  show PyFlat.told (PyFlat.played KrdkNeutral.step KrdkNeutral.start (cs.map PyKrdk.whole)) = _
  rw [whole_map] <;> rfl
theorem need_pl : ∀ k : Nat, k ≤ 21 → need k = pl k := by decide +kernel
theorem pl_two : ∀ k : Nat, k ≤ 21 → pl k ≤ 2 := by decide +kernel
theorem mem_put {cs : List (List (List Int))} {c : List (List Int)} (h : c ∈ cs) {z : Int} (hz : z ∈ PyFlat.put1 c) : z ∈ PyFlat.put cs := by
  induction cs with
  | nil => cases h
  | cons d cs ih =>
    show z ∈ PyFlat.put1 d ++ PyFlat.put cs
    rcases List.mem_cons.mp h with e | e
    · subst e
      exact List.mem_append_left _ hz
    · exact List.mem_append_right _ (ih e)
theorem row_256 {c : List (List Int)} {k : Nat} {a r : List Int} (R : Raw c k a r) (h : KrdkNeutral.asked1 c = true) : r.length ≤ 255 := by
  rcases rwn_01 k with z | z
  · rw [R.lr z]
    exact Nat.zero_le _
  · have hk := R.k21
    have hla := R.la
    have hf := R.form
    rw [if_pos z] at hf
    have h12 : k = 1 ∨ k = 2 := by
      revert z
      unfold rwn
      split <;> simp
    rcases h12 with e | e
    · subst e
      obtain rfl := List.length_eq_zero_iff.mp hla
      subst hf
      have h : ((r.all fun (z : Int) => KrdkNeutral.natural z 32) && decide (r.length < 256)) = true := h
      rw [Bool.and_eq_true] at h
      have := of_decide_eq_true h.2
      omega
    · subst e
      obtain ⟨q, rfl⟩ := List.length_eq_one_iff.mp hla
      subst hf
      have h : (KrdkNeutral.natural q 32 && (r.all fun (z : Int) => KrdkNeutral.natural z 32) && decide (r.length < 256)) = true := h
      rw [Bool.and_eq_true] at h
      have := of_decide_eq_true h.2
      omega
theorem asked_of {l : List Int} (hl : l.length ≤ 10400) (h0 : ∀ z ∈ l, 0 ≤ z) (h : PyKrdk.answers_asked l = true) : ∃ cs, l = PyFlat.put cs ∧ Asked cs ∧ PyKrdk.answers l = accS none cs := by
  unfold PyKrdk.answers_asked at h
  split at h
  · cases h
  · rename_i cs hcs
    obtain ⟨e, ok⟩ := PyFlat.put_calls _ _ _ hcs
    have ea := answers_is hcs
    rw [Bool.and_eq_true, Bool.and_eq_true, whole_map] at h
    obtain ⟨⟨_, hask⟩, hshort⟩ := h
    have hall : ∀ c ∈ cs, KrdkNeutral.asked1 c = true := by
      unfold KrdkNeutral.asked at hask
      rw [Bool.and_eq_true, Bool.and_eq_true] at hask
      exact List.all_eq_true.mp hask.1.2
    refine ⟨cs, e, ⟨ok, fun c hc k a r R => ⟨?_, fun z hz => ?_, ?_⟩, by rw [← e]; exact hl, ?_⟩, ea⟩
    · rw [need_pl k R.k21, ← R.la, List.length_append]
      omega
    · have hm : z ∈ PyFlat.put1 c := by
        rw [R.flat]
        refine List.mem_cons_of_mem _ ?_
        rcases List.mem_append.mp hz with q | q
        · exact List.mem_append_left _ q
        · refine List.mem_append_right _ ?_
          rcases rwn_01 k with w | w
          · rw [R.lr w] at q
            cases q
          · rw [if_pos w]
            exact List.mem_cons_of_mem _ q
      refine h0 z ?_
      rw [e]
      exact mem_put hc hm
    · have h1 := row_256 R (hall c hc)
      have h2 := pl_two k R.k21
      rw [List.length_append, R.la]
      omega
    · rw [← ea]
      exact of_decide_eq_true hshort
/-! ### what the top has written -/
/-- a def of the module -/
structure Df (K : PySem.W.Frag) (x : Str) (st : Stmt) (f : Addr) : Prop where
  ns : PySem.W.nsIn K mainGlobals x = some (some (.ref f))
  ex : ∃ (oc : Value) (od : Option Addr) (kV doc pm : Value) (an : Option Addr) (cd ct : Value) (sl : Array (Option Value)),
    K.lookup f = some ⟨oc, od, .func (PySem.W.fnOf x x (defArgs st) (defBody st) (defScope st) .none kV doc pm an cd ct), sl⟩ ∧ PySem.W.codeIn K cd x = true
  kp : PySem.W.keepIn K (.ref f) = true
/-- a def of the module that makes lambdas: its code object, its table of code -/
structure Dc (K : PySem.W.Frag) (x : Str) (st : Stmt) (f c P0 : Addr) : Prop where
  ns : PySem.W.nsIn K mainGlobals x = some (some (.ref f))
  ex : ∃ (oc : Value) (od : Option Addr) (kV doc pm : Value) (an : Option Addr) (ct : Value) (sl : Array (Option Value)),
    K.lookup f = some ⟨oc, od, .func (PySem.W.fnOf x x (defArgs st) (defBody st) (defScope st) .none kV doc pm an (.ref c) ct), sl⟩ ∧ PySem.W.codeIn K (.ref c) x = true
  kp : PySem.W.keepIn K (.ref f) = true
  cd : ∃ (oc : Value) (od : Option Addr) (vs : Array Value) (sl : Array (Option Value)), K.lookup c = some ⟨oc, od, .fields vs, sl⟩ ∧ (vs[11]? : Option Value) = some (.ref P0)
  no : K.lookup P0 = none
/-- a method -/
structure Dm2 (K : PySem.W.Frag) (C : Addr) (x qual : Str) (st : Stmt) (f : Addr) : Prop where
  at_ : PySem.W.findIn K (.ref C) x = some (some (.ref f))
  fn : PySem.W.isFn K (.ref f) = true
  ex : ∃ (oc : Value) (od : Option Addr) (kV doc pm : Value) (an : Option Addr) (cd ct : Value) (sl : Array (Option Value)),
    K.lookup f = some ⟨oc, od, .func (PySem.W.fnOf x qual (defArgs st) (defBody st) (defScope st) .none kV doc pm an cd ct), sl⟩ ∧ PySem.W.codeIn K cd qual = true
  kp : PySem.W.keepIn K (.ref f) = true
/-- how a def's arguments bind -/
def Bd (x qual : Str) (st : Stmt) (ps : List Str) : Prop := ∀ (kV doc pm : Value) (an : Option Addr) (cdv ct : Value) (us : List Value), us.length = ps.length → bindArgs (PySem.W.fnOf x qual (defArgs st) (defBody st) (defScope st) .none kV doc pm an cdv ct) ⟨us, []⟩ = pure (ps.zip us)
section
variable {P : Program} {w : World} {K : PySem.W.Frag} {h : Heap} {mg : Str → Option Value} {base : Heap} {CX : CXT} {k : Nat} {x qual : Str} {st : Stmt} {f c P0 C : Addr} {ps : List Str} {sp : Sp}
theorem Df.hs (D : Df K x st f) (X : K.In h) (G : h.Ns mainGlobals mg) (b : Bd x x st ps) (ok : ∀ {fd : FuncData}, Fun K x x st f fd → FnOk P w K mg base CX k f fd ps sp) : Hs P w K mg base CX k x sp := by
  obtain ⟨oc, od, kV, doc, pm, an, cd, ct, sl, l, hc⟩ := D.ex
  have F := fun_mk l hc D.kp
  exact ⟨f, _, ps, PySem.W.mg_of X G D.ns, D.kp, F.binds b, ok F⟩
theorem fnr_of {fd : FuncData} (F : FnOk P w K mg base CX k f fd ps sp) (b : Binds K fd ps []) : FnR P w K mg base CX k f sp :=
  (F.raw b .nil).imp fun vs H Q E z => by
    show sp (vs ++ []) H Q E
    rw [List.append_nil]
    exact z
theorem Df.fnr (D : Df K x st f) (b : Bd x x st ps) (ok : ∀ {fd : FuncData}, Fun K x x st f fd → FnOk P w K mg base CX k f fd ps sp) : FnR P w K mg base CX k f sp := by
  obtain ⟨oc, od, kV, doc, pm, an, cd, ct, sl, l, hc⟩ := D.ex
  have F := fun_mk l hc D.kp
  exact fnr_of (ok F) (F.binds b)
theorem Dc.fnr (D : Dc K x st f c P0) (b : Bd x x st ps) (ok : ∀ {fd : FuncData}, FunC K x x st f fd c → FnOk P w K mg base CX k f fd ps sp) : FnR P w K mg base CX k f sp := by
  obtain ⟨oc, od, kV, doc, pm, an, ct, sl, l, hc⟩ := D.ex
  have F := fun_mk l hc D.kp
  exact fnr_of (ok ⟨oc, od, kV, doc, pm, an, ct, sl, rfl, l, hc⟩) (F.binds b)
theorem Dc.tab {q : Program} {loose : List Str} {mean : ExcName → Option Value} {mb : Str → Option Value} {d : DefRec} (D : Dc K x st f c P0) (X : K.In h) (T : Top q loose mean mg mb h) (hr : (recsOf q).find? (fun e => e.name == x) = some d) :
    PySem.W.CodeHd h c P0 ∧ h.get? P0 = some { cls := .none, data := .fields #[] } := by
  refine PySem.W.tab_of T X hr ?_
  obtain ⟨oc, od, kV, doc, pm, an, ct, sl, l, hc⟩ := D.ex
  obtain ⟨oc2, od2, vs, sl2, l2, hv⟩ := D.cd
  unfold PySem.W.tabIn
  simp only [D.ns, l, l2, hv]
theorem Dm2.fn_ (D : Dm2 K C x qual st f) (b : Bd x qual st ps) (ok : ∀ {fd : FuncData}, Fun K x qual st f fd → FnOk P w K mg base CX k f fd ps sp) : ∃ fd, FnOk P w K mg base CX k f fd ps sp ∧ Binds K fd ps [] := by
  obtain ⟨oc, od, kV, doc, pm, an, cd, ct, sl, l, hc⟩ := D.ex
  have F := fun_mk l hc D.kp
  exact ⟨_, ok F, F.binds b⟩
theorem Dm2.meth (D : Dm2 K C x qual st f) : Meth K C x f := ⟨D.at_, D.fn, D.kp⟩
end
end Bw
namespace Bw
open PySem PySem.Spec PyProof.Rows L2 LamX
/-- an error class as the top has written it -/
structure Ec (K : PySem.W.Frag) (x : Str) (C : Addr) : Prop where
  ns : PySem.W.nsIn K mainGlobals x = some (some (.ref C))
  xC : PySem.W.excIn K C [.type "Exception", .type "BaseException", .type "object"] "Exception.__new__" = true
  kC : PySem.W.keepIn K (.ref C) = true
  bC : PySem.W.subIn K (.ref C) (.type "BaseException") = some true
  tC : PySem.W.typeIn K (.ref C) = some (.type "type")
  iC : PySem.W.isClsIn K C = true
theorem exm_is {K : PySem.W.Frag} {x : Str} {C : Addr} {cls : Value} {b : Bool} (e : Ec K x C) (h : PySem.W.subIn K cls (.ref C) = some b) : PySem.W.exmOne K cls (.ref C) = some b := by
  have e1 : (PySem.W.subIn K (.ref C) (.type "BaseException") == some true) = true := by rw [e.bC] <;> rfl
  have e2 : ((PySem.W.clsIn K C).isSome && PySem.W.typeIn K (.ref C) == some (.type "type")) = true := by
    have i := e.iC
    unfold PySem.W.isClsIn at i
    rw [i, e.tC] <;> rfl
  show (if (PySem.W.subIn K (.ref C) (.type "BaseException") == some true) = true then (if ((PySem.W.clsIn K C).isSome && PySem.W.typeIn K (.ref C) == some (.type "type")) = true then PySem.W.subIn K cls (.ref C) else none) else none) = some b
  rw [if_pos e1, if_pos e2]
  exact h
/-- a written tuple -/
structure Tw (K : PySem.W.Frag) (x : Str) (a : Addr) (xs : List V) : Prop where
  ns : PySem.W.nsIn K mainGlobals x = some (some (.ref a))
  ex : ∃ (o : Obj) (its : Array Value) (n : Nat), K.lookup a = some o ∧ o.cls = .type "tuple" ∧ o.data = .seq its n ∧ its.size ≤ sizeLine ∧ Vals xs its.toList
/-- a written dict -/
structure Dw2 (K : PySem.W.Frag) (w : World) (x : Str) (a : Addr) : Prop where
  ns : PySem.W.nsIn K mainGlobals x = some (some (.ref a))
  ex : ∃ es n, KDict K w a es n
def lamNames : List Str := ["told", "least", "odd", "bit", "not_of", "turn"]
/-- the tables of code with the names that they tell -/
def tOf (cs : List (Addr × Addr)) : List (Addr × Str) := (cs.map (·.2)).zip (lamNames.map lamQ)
theorem uniq : ∀ {T : List (Addr × Str)}, (T.map (·.1)).Nodup → ∀ {p q : Addr × Str}, p ∈ T → q ∈ T → p.1 = q.1 → p.2 = q.2
  | t :: T, hn, p, q, hp, hq, e => by
    obtain ⟨h1, h2⟩ := List.nodup_cons.mp hn
    cases hp with
    | head =>
      cases hq with
      | head => rfl
      | tail _ hq => exact absurd (List.mem_map.mpr ⟨q, hq, e.symm⟩) h1
    | tail _ hp =>
      cases hq with
      | head => exact absurd (List.mem_map.mpr ⟨p, hp, e⟩) h1
      | tail _ hq => exact uniq h2 hp hq e
theorem tabs_of {cs : List (Addr × Addr)} {H : Hp} (h : ∀ p ∈ cs, H p.2 = some (.tbl #[])) : Tabs (tOf cs) H := fun p hp => by
  obtain ⟨q, hq, e⟩ := List.mem_map.mp (List.of_mem_zip (show (p.1, p.2) ∈ (cs.map (·.2)).zip (lamNames.map lamQ) from hp)).1
  exact TabS.nil (by rw [← e]; exact h q hq)
theorem mkDf {K : PySem.W.Frag} {x : Str} {st : Stmt} {f : Addr} {oc kV doc pm cd ct : Value} {od an : Option Addr} {sl : Array (Option Value)} (n : PySem.W.nsIn K mainGlobals x = some (some (.ref f)))
    (l : K.lookup f = some ⟨oc, od, .func (PySem.W.fnOf x x (defArgs st) (defBody st) (defScope st) .none kV doc pm an cd ct), sl⟩) (c : PySem.W.codeIn K cd x = true) (k : PySem.W.keepIn K (.ref f) = true) : Df K x st f :=
  ⟨n, ⟨oc, od, kV, doc, pm, an, cd, ct, sl, l, c⟩, k⟩
theorem mkDc {K : PySem.W.Frag} {x : Str} {st : Stmt} {f c P0 : Addr} {oc kV doc pm ct oc2 : Value} {od an od2 : Option Addr} {sl sl2 : Array (Option Value)} {vs : Array Value} (n : PySem.W.nsIn K mainGlobals x = some (some (.ref f)))
    (l : K.lookup f = some ⟨oc, od, .func (PySem.W.fnOf x x (defArgs st) (defBody st) (defScope st) .none kV doc pm an (.ref c) ct), sl⟩) (hc : PySem.W.codeIn K (.ref c) x = true) (k : PySem.W.keepIn K (.ref f) = true)
    (d : K.lookup c = some ⟨oc2, od2, .fields vs, sl2⟩) (v : (vs[11]? : Option Value) = some (.ref P0)) (o : K.lookup P0 = none) : Dc K x st f c P0 :=
  ⟨n, ⟨oc, od, kV, doc, pm, an, ct, sl, l, hc⟩, k, ⟨oc2, od2, vs, sl2, d, v⟩, o⟩
theorem mkDm {K : PySem.W.Frag} {C : Addr} {x qual : Str} {st : Stmt} {f : Addr} {oc kV doc pm cd ct : Value} {od an : Option Addr} {sl : Array (Option Value)} (a : PySem.W.findIn K (.ref C) x = some (some (.ref f))) (i : PySem.W.isFn K (.ref f) = true)
    (l : K.lookup f = some ⟨oc, od, .func (PySem.W.fnOf x qual (defArgs st) (defBody st) (defScope st) .none kV doc pm an cd ct), sl⟩) (c : PySem.W.codeIn K cd qual = true) (k : PySem.W.keepIn K (.ref f) = true) : Dm2 K C x qual st f :=
  ⟨a, i, ⟨oc, od, kV, doc, pm, an, cd, ct, sl, l, c⟩, k⟩
theorem mkDw {K : PySem.W.Frag} {w : World} {x : Str} {a : Addr} {es : Array DictEntry} {n : Nat} (h : PySem.W.nsIn K mainGlobals x = some (some (.ref a))) (l : K.lookup a = some ⟨.type "dict", none, .dict es n, #[]⟩) (c : PySem.W.KeysLit w.params es.toList) (d : (a == sysModules) = false) : Dw2 K w x a :=
  ⟨h, es, n, l, c, d⟩
theorem mkTw {K : PySem.W.Frag} {x : Str} {a : Addr} {xs : List V} {o : Obj} {its : Array Value} {n : Nat} (h : PySem.W.nsIn K mainGlobals x = some (some (.ref a))) (l : K.lookup a = some o) (c : o.cls = .type "tuple") (d : o.data = .seq its n) (z : its.size ≤ sizeLine) (v : Vals xs its.toList) : Tw K x a xs :=
  ⟨h, o, its, n, l, c, d, z, v⟩
theorem mkCl {K : PySem.W.Frag} {C : Addr} (a : PySem.W.plainGet K C Str.empty = true) (b : PySem.W.hasDictIn K C = true) (c : PySem.W.plainOver K C = true) (d : PySem.W.findIn K (.ref C) "__setattr__" = some (some (.builtin "object.__setattr__"))) : Cls K C := ⟨a, b, c, d⟩
theorem mkEc {K : PySem.W.Frag} {x : Str} {C : Addr} (a : PySem.W.nsIn K mainGlobals x = some (some (.ref C))) (b : PySem.W.excIn K C [.type "Exception", .type "BaseException", .type "object"] "Exception.__new__" = true) (c : PySem.W.keepIn K (.ref C) = true)
    (d : PySem.W.subIn K (.ref C) (.type "BaseException") = some true) (e : PySem.W.typeIn K (.ref C) = some (.type "type")) (f : PySem.W.isClsIn K C = true) : Ec K x C := ⟨a, b, c, d, e, f⟩
theorem mkNs {K : PySem.W.Frag} {C : Addr} {f : Str} (a : PySem.W.findIn K (.ref C) f = some none) : NoAttr K C f := a
theorem all_mk {P : Program} {w : World} {K : PySem.W.Frag} {h : Heap} {mg mb : Str → Option Value} {q : Program} {loose : List Str} {mean : ExcName → Option Value} {fa f_gcd f_low f_nta f_bc f_hb f_tu f_wb f_sz f_mo f_wy f_ps f_pp f_ls f_cb f_cw f_sc f_scs f_sd f_fw f_ir f_ask f_mean f_sway f_all f_even f_part f_parts f_levels f_sides f_fewest f_rising f_idle f_most f_state f_yw f_wo f_set f_spl f_ans f_told f_least f_odd f_bit f_not f_turn f_ini f_rep f_ob f_beg c_told c_least c_odd c_bit c_not c_turn P_told P_least P_odd P_bit P_not P_turn C CB CR CN DM DA DP aN aW : Addr} {t32 t9 t5 : Tok} {tp0 tp2 tp3 tp4 tp6 tp7 tp8 tp10 tp13 : Tok} {r_told r_least r_odd r_bit r_not r_turn : DefRec}
    (X : K.In h) (G : h.Ns mainGlobals mg) (T : Top q loose mean mg mb h) (hfa : mg "answers" = some (.ref fa))
    (d_gcd : Df K "most_in_common" (top 1) f_gcd) (d_low : Df K "lowest_terms" (top 2) f_low) (d_nta : Df K "no_to_all" (top 4) f_nta) (d_bc : Df K "bit_count" (top 5) f_bc) (d_hb : Df K "has_bit" (top 6) f_hb) (d_tu : Df K "turned" (top 7) f_tu) (d_wb : Df K "with_bit" (top 8) f_wb) (d_sz : Df K "size_of" (top 9) f_sz) (d_mo : Df K "meets_oddly" (top 10) f_mo) (d_wy : Df K "words_of_yes" (top 11) f_wy) (d_ps : Df K "part_sum" (top 13) f_ps) (d_pp : Df K "part_sums" (top 14) f_pp) (d_ls : Df K "level_sums" (top 15) f_ls) (d_cb : Df K "check_bit" (top 20) f_cb) (d_cw : Df K "check_word" (top 21) f_cw) (d_sc : Df K "sway_count" (top 23) f_sc) (d_scs : Df K "sway_counts" (top 24) f_scs) (d_sd : Df K "side_count" (top 25) f_sd) (d_fw : Df K "first_words" (top 26) f_fw) (d_ir : Df K "is_rising" (top 27) f_ir) (d_ask : Df K "ask" (top 29) f_ask) (d_mean : Df K "mean" (top 30) f_mean) (d_sway : Df K "sway" (top 31) f_sway) (d_all : Df K "all_sways" (top 32) f_all) (d_even : Df K "even" (top 33) f_even) (d_part : Df K "part" (top 34) f_part) (d_parts : Df K "parts" (top 35) f_parts) (d_levels : Df K "levels" (top 36) f_levels) (d_sides : Df K "sides" (top 37) f_sides) (d_fewest : Df K "fewest" (top 38) f_fewest) (d_rising : Df K "rising" (top 39) f_rising) (d_idle : Df K "idle" (top 40) f_idle) (d_most : Df K "most" (top 41) f_most) (d_state : Df K "state" (top 42) f_state) (d_yw : Df K "yes_where" (top 47) f_yw) (d_wo : Df K "weight_of" (top 49) f_wo) (d_set : Df K "set_word" (top 55) f_set) (d_spl : Df K "spelled" (top 64) f_spl) (d_ans : Df K "answers" (top 66) f_ans)
    (d_told : Dc K "told" (top 48) f_told c_told P_told) (d_least : Dc K "least" (top 50) f_least c_least P_least) (d_odd : Dc K "odd" (top 51) f_odd c_odd P_odd) (d_bit : Dc K "bit" (top 52) f_bit c_bit P_bit) (d_not : Dc K "not_of" (top 53) f_not c_not P_not) (d_turn : Dc K "turn" (top 54) f_turn c_turn P_turn)
    (q_told : (recsOf q).find? (fun e => e.name == ("told" : Str)) = some r_told) (q_least : (recsOf q).find? (fun e => e.name == ("least" : Str)) = some r_least) (q_odd : (recsOf q).find? (fun e => e.name == ("odd" : Str)) = some r_odd) (q_bit : (recsOf q).find? (fun e => e.name == ("bit" : Str)) = some r_bit) (q_not : (recsOf q).find? (fun e => e.name == ("not_of" : Str)) = some r_not) (q_turn : (recsOf q).find? (fun e => e.name == ("turn" : Str)) = some r_turn)
    (hnd : ([P_told, P_least, P_odd, P_bit, P_not, P_turn] : List Addr).Nodup)
    (d_ini : Dm2 K C "__init__" "Line.__init__" sIni f_ini) (d_rep : Dm2 K C "reply" "Line.reply" sRep f_rep) (d_ob : Dm2 K C "obey" "Line.obey" sOb f_ob) (d_beg : Dm2 K C "begin" "Line.begin" sBeg f_beg)
    (aC : PySem.W.nsIn K mainGlobals "Line" = some (some (.ref C))) (cl : Cls K C) (nS : NoAttr K C "says") (mkC : PySem.W.makesIn K C = true) (kC : PySem.W.keepIn K (.ref C) = true)
    (eB : Ec K "NoSuchBit" CB) (eN : Ec K "NotBegun" CN) (eR : Ec K "NotRight" CR)
    (sBB : PySem.W.subIn K (.ref CB) (.ref CB) = some true) (sNB : PySem.W.subIn K (.ref CN) (.ref CB) = some false) (sNN : PySem.W.subIn K (.ref CN) (.ref CN) = some true) (sRB : PySem.W.subIn K (.ref CR) (.ref CB) = some false) (sRN : PySem.W.subIn K (.ref CR) (.ref CN) = some false) (sRR : PySem.W.subIn K (.ref CR) (.ref CR) = some true)
    (dM : Dw2 K w "MAKING" DM) (dA : Dw2 K w "ASKING" DA) (dP : Dw2 K w "PLAIN" DP) (tN : Tw K "NAMES" aN (NMS.map V.str)) (tW : Tw K "WITH_ROW" aW [.str "told", .str "least"])
    (m1 : PySem.W.nsIn K DM "told" = some (some (.ref f_told))) (m2 : PySem.W.nsIn K DM "least" = some (some (.ref f_least))) (m3 : PySem.W.nsIn K DM "odd" = some (some (.ref f_odd))) (m4 : PySem.W.nsIn K DM "bit" = some (some (.ref f_bit))) (m5 : PySem.W.nsIn K DM "not_of" = some (some (.ref f_not))) (m6 : PySem.W.nsIn K DM "turn" = some (some (.ref f_turn))) (m7 : PySem.W.nsIn K DM "set" = some (some (.ref f_set)))
    (z8 : PySem.W.nsIn K DM "ask" = some none) (z9 : PySem.W.nsIn K DM "mean" = some none) (z10 : PySem.W.nsIn K DM "sway" = some none) (z11 : PySem.W.nsIn K DM "all_sways" = some none) (z12 : PySem.W.nsIn K DM "even" = some none) (z13 : PySem.W.nsIn K DM "part" = some none) (z14 : PySem.W.nsIn K DM "parts" = some none) (z15 : PySem.W.nsIn K DM "levels" = some none) (z16 : PySem.W.nsIn K DM "sides" = some none) (z17 : PySem.W.nsIn K DM "fewest" = some none) (z18 : PySem.W.nsIn K DM "rising" = some none) (z19 : PySem.W.nsIn K DM "idle" = some none) (z20 : PySem.W.nsIn K DM "most" = some none) (z21 : PySem.W.nsIn K DM "state" = some none)
    (a8 : PySem.W.nsIn K DA "ask" = some (some (.ref f_ask))) (a9 : PySem.W.nsIn K DA "mean" = some (some (.ref f_mean))) (a10 : PySem.W.nsIn K DA "sway" = some (some (.ref f_sway))) (a11 : PySem.W.nsIn K DA "all_sways" = some (some (.ref f_all))) (a12 : PySem.W.nsIn K DA "even" = some (some (.ref f_even))) (a13 : PySem.W.nsIn K DA "part" = some (some (.ref f_part))) (a14 : PySem.W.nsIn K DA "parts" = some (some (.ref f_parts))) (a15 : PySem.W.nsIn K DA "levels" = some (some (.ref f_levels))) (a16 : PySem.W.nsIn K DA "sides" = some (some (.ref f_sides))) (a17 : PySem.W.nsIn K DA "fewest" = some (some (.ref f_fewest))) (a18 : PySem.W.nsIn K DA "rising" = some (some (.ref f_rising))) (a19 : PySem.W.nsIn K DA "idle" = some (some (.ref f_idle))) (a20 : PySem.W.nsIn K DA "most" = some (some (.ref f_most))) (a21 : PySem.W.nsIn K DA "state" = some (some (.ref f_state)))
    (p0 : PySem.W.nsIn K DP "begin" = some (some (.int 1 tp0))) (p1 : PySem.W.nsIn K DP "told" = some none) (p2 : PySem.W.nsIn K DP "least" = some (some (.int 1 tp2))) (p3 : PySem.W.nsIn K DP "odd" = some (some (.int 1 tp3))) (p4 : PySem.W.nsIn K DP "bit" = some (some (.int 1 tp4))) (p5 : PySem.W.nsIn K DP "not_of" = some none) (p6 : PySem.W.nsIn K DP "turn" = some (some (.int 1 tp6))) (p7 : PySem.W.nsIn K DP "set" = some (some (.int 2 tp7))) (p8 : PySem.W.nsIn K DP "ask" = some (some (.int 1 tp8))) (p9 : PySem.W.nsIn K DP "mean" = some none) (p10 : PySem.W.nsIn K DP "sway" = some (some (.int 1 tp10))) (p11 : PySem.W.nsIn K DP "all_sways" = some none) (p12 : PySem.W.nsIn K DP "even" = some none) (p13 : PySem.W.nsIn K DP "part" = some (some (.int 1 tp13))) (p14 : PySem.W.nsIn K DP "parts" = some none) (p15 : PySem.W.nsIn K DP "levels" = some none) (p16 : PySem.W.nsIn K DP "sides" = some none) (p17 : PySem.W.nsIn K DP "fewest" = some none) (p18 : PySem.W.nsIn K DP "rising" = some none) (p19 : PySem.W.nsIn K DP "idle" = some none) (p20 : PySem.W.nsIn K DP "most" = some none) (p21 : PySem.W.nsIn K DP "state" = some none)
    (k32 : PySem.W.nsIn K mainGlobals "MOST_TOLD" = some (some (.int 32 t32))) (k9 : PySem.W.nsIn K mainGlobals "LARGEST_WEIGHT" = some (some (.int 9 t9))) (k5 : PySem.W.nsIn K mainGlobals "MOST_BITS" = some (some (.int 5 t5)))
    (n_len : PySem.W.nsIn K mainGlobals "len" = some none) (n_range : PySem.W.nsIn K mainGlobals "range" = some none) (n_sum : PySem.W.nsIn K mainGlobals "sum" = some none) (n_max : PySem.W.nsIn K mainGlobals "max" = some none) (n_enumerate : PySem.W.nsIn K mainGlobals "enumerate" = some none) (n_list : PySem.W.nsIn K mainGlobals "list" = some none) :
    ∃ (cs : List (Addr × Addr)) (fd : FuncData), (∀ p ∈ cs, h.get? p.2 = some { cls := .none, data := .fields #[] }) ∧ (∀ p ∈ cs, K.lookup p.2 = none) ∧ (∀ p ∈ cs, PySem.W.CodeHd h p.1 p.2) ∧
      (∀ (s : Shared) (us : List Value), us.length = (["calls"] : List Str).length → BindsTo s fd ⟨us, []⟩ ((["calls"] : List Str).zip us)) ∧
      ∀ base : Heap, K.In base → base.Ns mainGlobals mg → (∀ p ∈ cs, TabB base mg p.1 p.2) → FnOk P w K mg base L2.CX0 9 fa fd ["calls"] (spAns K (tOf cs)) := by
  have e := hfa.symm.trans (PySem.W.mg_of X G d_ans.ns)
  cases e
  have mgO : ∀ {x : Str} {v : Value}, PySem.W.nsIn K mainGlobals x = some (some v) → mg x = some v := fun z => PySem.W.mg_of X G z
  have B : Bn mg := ⟨PySem.W.mg_none_of X G n_len, PySem.W.mg_none_of X G n_range, PySem.W.mg_none_of X G n_sum, PySem.W.mg_none_of X G n_max, PySem.W.mg_none_of X G n_enumerate, PySem.W.mg_none_of X G n_list⟩
  have RB : Er K mg "NoSuchBit" CB := ⟨mgO eB.ns, eB.xC, eB.kC, eB.bC, eB.tC⟩
  have RN : Er K mg "NotBegun" CN := ⟨mgO eN.ns, eN.xC, eN.kC, eN.bC, eN.tC⟩
  have RR : Er K mg "NotRight" CR := ⟨mgO eR.ns, eR.xC, eR.kC, eR.bC, eR.tC⟩
  have X3 : Ex3 K CB CR CN := ⟨exm_is eB sBB, exm_is eB sNB, exm_is eN sNN, exm_is eB sRB, exm_is eN sRN, exm_is eR sRR⟩
  have L : Ln K mg C := ⟨cl, nS, mgO aC⟩
  have tab_told := d_told.tab X T q_told
  have tab_least := d_least.tab X T q_least
  have tab_odd := d_odd.tab X T q_odd
  have tab_bit := d_bit.tab X T q_bit
  have tab_not := d_not.tab X T q_not
  have tab_turn := d_turn.tab X T q_turn
  obtain ⟨oc, od, kV, doc, pm, an, cd, ct, sl, la, hca⟩ := d_ans.ex
  have FA := fun_mk (st := top 66) la hca d_ans.kp
  refine ⟨[(c_told, P_told), (c_least, P_least), (c_odd, P_odd), (c_bit, P_bit), (c_not, P_not), (c_turn, P_turn)], PySem.W.fnOf "answers" "answers" (defArgs (top 66)) (defBody (top 66)) (defScope (top 66)) .none kV doc pm an cd ct, ?_, ?_, ?_, fun s us hu => match us, hu with | [_], _ => .of_eq rfl, fun base kin ns tabs => ?_⟩
  · simp only [List.forall_mem_cons]
    exact ⟨tab_told.2, tab_least.2, tab_odd.2, tab_bit.2, tab_not.2, tab_turn.2, fun _ z => nomatch z⟩
  · simp only [List.forall_mem_cons]
    exact ⟨d_told.no, d_least.no, d_odd.no, d_bit.no, d_not.no, d_turn.no, fun _ z => nomatch z⟩
  · simp only [List.forall_mem_cons]
    exact ⟨tab_told.1, tab_least.1, tab_odd.1, tab_bit.1, tab_not.1, tab_turn.1, fun _ z => nomatch z⟩
  generalize hT : tOf [(c_told, P_told), (c_least, P_least), (c_odd, P_odd), (c_bit, P_bit), (c_not, P_not), (c_turn, P_turn)] = TT
  have eT : TT = [(P_told, lamQ "told"), (P_least, lamQ "least"), (P_odd, lamQ "odd"), (P_bit, lamQ "bit"), (P_not, lamQ "not_of"), (P_turn, lamQ "turn")] := hT.symm
  simp only [List.forall_mem_cons] at tabs
  obtain ⟨tb_told, tb_least, tb_odd, tb_bit, tb_not, tb_turn, _⟩ := tabs
  have hnd2 : (TT.map (·.1)).Nodup := by
    rw [eT]
    exact hnd
  have M_told : (P_told, lamQ "told") ∈ TT := by
    rw [eT]
    exact .head _
  have T_told : Tb base mg TT "told" c_told := ⟨P_told, tb_told, M_told, fun p hp z => uniq hnd2 hp M_told z⟩
  have M_least : (P_least, lamQ "least") ∈ TT := by
    rw [eT]
    exact .tail _ (.head _)
  have T_least : Tb base mg TT "least" c_least := ⟨P_least, tb_least, M_least, fun p hp z => uniq hnd2 hp M_least z⟩
  have M_odd : (P_odd, lamQ "odd") ∈ TT := by
    rw [eT]
    exact .tail _ (.tail _ (.head _))
  have T_odd : Tb base mg TT "odd" c_odd := ⟨P_odd, tb_odd, M_odd, fun p hp z => uniq hnd2 hp M_odd z⟩
  have M_bit : (P_bit, lamQ "bit") ∈ TT := by
    rw [eT]
    exact .tail _ (.tail _ (.tail _ (.head _)))
  have T_bit : Tb base mg TT "bit" c_bit := ⟨P_bit, tb_bit, M_bit, fun p hp z => uniq hnd2 hp M_bit z⟩
  have M_not : (P_not, lamQ "not_of") ∈ TT := by
    rw [eT]
    exact .tail _ (.tail _ (.tail _ (.tail _ (.head _))))
  have T_not : Tb base mg TT "not_of" c_not := ⟨P_not, tb_not, M_not, fun p hp z => uniq hnd2 hp M_not z⟩
  have M_turn : (P_turn, lamQ "turn") ∈ TT := by
    rw [eT]
    exact .tail _ (.tail _ (.tail _ (.tail _ (.tail _ (.head _)))))
  have T_turn : Tb base mg TT "turn" c_turn := ⟨P_turn, tb_turn, M_turn, fun p hp z => uniq hnd2 hp M_turn z⟩
  have H_gcd : Hs P w K mg base CX0 1 "most_in_common" spGcd := d_gcd.hs X G (ps := ["upper", "lower"]) (fun _ _ _ _ _ _ us hl => match us, hl with | [_, _], _ => rfl) fun {fd} F => ok_gcd F
  have H_low : Hs P w K mg base CX0 2 "lowest_terms" spLow := d_low.hs X G (ps := ["upper", "lower"]) (fun _ _ _ _ _ _ us hl => match us, hl with | [_, _], _ => rfl) fun {fd} F => ok_low F H_gcd
  have H_nta : Hs P w K mg base CX0 1 "no_to_all" spNta := d_nta.hs X G (ps := ["bits"]) (fun _ _ _ _ _ _ us hl => match us, hl with | [_], _ => rfl) fun {fd} F => ok_nta F
  have H_bc : Hs P w K mg base CX0 1 "bit_count" (spBc K) := d_bc.hs X G (ps := ["says"]) (fun _ _ _ _ _ _ us hl => match us, hl with | [_], _ => rfl) fun {fd} F => ok_bc B F
  have H_hb : Hs P w K mg base CX0 1 "has_bit" spHb := d_hb.hs X G (ps := ["x", "i"]) (fun _ _ _ _ _ _ us hl => match us, hl with | [_, _], _ => rfl) fun {fd} F => ok_hb F
  have H_tu : Hs P w K mg base CX0 1 "turned" spTu := d_tu.hs X G (ps := ["x", "i"]) (fun _ _ _ _ _ _ us hl => match us, hl with | [_, _], _ => rfl) fun {fd} F => ok_tu F
  have H_wb : Hs P w K mg base CX0 1 "with_bit" spWb := d_wb.hs X G (ps := ["x", "i"]) (fun _ _ _ _ _ _ us hl => match us, hl with | [_, _], _ => rfl) fun {fd} F => ok_wb F
  have H_sz : Hs P w K mg base CX0 1 "size_of" spSz := d_sz.hs X G (ps := ["s"]) (fun _ _ _ _ _ _ us hl => match us, hl with | [_], _ => rfl) fun {fd} F => ok_sz F
  have H_mo : Hs P w K mg base CX0 2 "meets_oddly" spMo := d_mo.hs X G (ps := ["x", "s"]) (fun _ _ _ _ _ _ us hl => match us, hl with | [_, _], _ => rfl) fun {fd} F => ok_mo F H_sz
  have H_wy : Hs P w K mg base CX0 1 "words_of_yes" (spWy K) := d_wy.hs X G (ps := ["says"]) (fun _ _ _ _ _ _ us hl => match us, hl with | [_], _ => rfl) fun {fd} F => ok_wy B F
  have H_ps : Hs P w K mg base CX0 3 "part_sum" (spPs K) := d_ps.hs X G (ps := ["says", "s"]) (fun _ _ _ _ _ _ us hl => match us, hl with | [_, _], _ => rfl) fun {fd} F => ok_ps B F H_mo
  have H_pp : Hs P w K mg base CX0 4 "part_sums" (spPp K) := d_pp.hs X G (ps := ["says"]) (fun _ _ _ _ _ _ us hl => match us, hl with | [_], _ => rfl) fun {fd} F => ok_pp B F H_ps
  have H_ls : Hs P w K mg base CX0 5 "level_sums" (spLs K) := d_ls.hs X G (ps := ["says"]) (fun _ _ _ _ _ _ us hl => match us, hl with | [_], _ => rfl) fun {fd} F => ok_ls B F H_bc H_pp H_sz
  have H_cb : Hs P w K mg base (L2.CX P w) 2 "check_bit" (spCb K CB) := d_cb.hs X G (ps := ["says", "i"]) (fun _ _ _ _ _ _ us hl => match us, hl with | [_, _], _ => rfl) fun {fd} F => ok_cb F RB H_bc
  have H_cw : Hs P w K mg base (L2.CX P w) 2 "check_word" (spCw K CR) := d_cw.hs X G (ps := ["says", "x"]) (fun _ _ _ _ _ _ us hl => match us, hl with | [_, _], _ => rfl) fun {fd} F => ok_cw B F RR
  have H_sc : Hs P w K mg base CX0 2 "sway_count" (spSc K) := d_sc.hs X G (ps := ["says", "i"]) (fun _ _ _ _ _ _ us hl => match us, hl with | [_, _], _ => rfl) fun {fd} F => ok_sc B F H_tu
  have H_scs : Hs P w K mg base CX0 3 "sway_counts" (spScs K) := d_scs.hs X G (ps := ["says"]) (fun _ _ _ _ _ _ us hl => match us, hl with | [_], _ => rfl) fun {fd} F => ok_scs B F H_sc H_bc
  have H_sd : Hs P w K mg base CX0 4 "side_count" (spSd K) := d_sd.hs X G (ps := ["says"]) (fun _ _ _ _ _ _ us hl => match us, hl with | [_], _ => rfl) fun {fd} F => ok_sd B F H_scs
  have H_fw : Hs P w K mg base CX0 1 "first_words" (spFw K) := d_fw.hs X G (ps := ["says"]) (fun _ _ _ _ _ _ us hl => match us, hl with | [_], _ => rfl) fun {fd} F => ok_fw B F
  have H_ir : Hs P w K mg base CX0 2 "is_rising" (spIr K) := d_ir.hs X G (ps := ["says"]) (fun _ _ _ _ _ _ us hl => match us, hl with | [_], _ => rfl) fun {fd} F => ok_ir B F H_wb H_bc
  have H_yw : Hs P w K mg base CX0 5 "yes_where" (spYw P w K mg base 4) := d_yw.hs X G (ps := ["says", "rule"]) (fun _ _ _ _ _ _ us hl => match us, hl with | [_, _], _ => rfl) fun {fd} F => ok_yw B (kR := 4) F
  have H_wo : Hs P w K mg base CX0 2 "weight_of" (spWo K) := d_wo.hs X G (ps := ["x", "weights"]) (fun _ _ _ _ _ _ us hl => match us, hl with | [_, _], _ => rfl) fun {fd} F => ok_wo B F H_hb
  have W : Pn w K mg DP aN aW := by
    obtain ⟨o1, i1, n1, l1, c1, g1, s1, v1⟩ := tN.ex
    obtain ⟨o2, i2, n2, l2, c2, g2, s2, v2⟩ := tW.ex
    refine ⟨mgO dP.ns, mgO tN.ns, mgO tW.ns, dP.ex, fun c hc => ?_, fun H => .inr ⟨o1, i1, n1, l1, c1, g1, s1, v1⟩, fun H => .inr ⟨o2, i2, n2, l2, c2, g2, s2, v2⟩⟩
    have : c = 0 ∨ c = 1 ∨ c = 2 ∨ c = 3 ∨ c = 4 ∨ c = 5 ∨ c = 6 ∨ c = 7 ∨ c = 8 ∨ c = 9 ∨ c = 10 ∨ c = 11 ∨ c = 12 ∨ c = 13 ∨ c = 14 ∨ c = 15 ∨ c = 16 ∨ c = 17 ∨ c = 18 ∨ c = 19 ∨ c = 20 ∨ c = 21 := by omega
    rcases this with z | z | z | z | z | z | z | z | z | z | z | z | z | z | z | z | z | z | z | z | z | z <;> subst z
    · exact ⟨_, p0, fun u z => (by cases z; exact ⟨_, rfl⟩), fun z => (by cases z)⟩
    · exact ⟨_, p1, fun u z => (by cases z), fun _ => rfl⟩
    · exact ⟨_, p2, fun u z => (by cases z; exact ⟨_, rfl⟩), fun z => (by cases z)⟩
    · exact ⟨_, p3, fun u z => (by cases z; exact ⟨_, rfl⟩), fun z => (by cases z)⟩
    · exact ⟨_, p4, fun u z => (by cases z; exact ⟨_, rfl⟩), fun z => (by cases z)⟩
    · exact ⟨_, p5, fun u z => (by cases z), fun _ => rfl⟩
    · exact ⟨_, p6, fun u z => (by cases z; exact ⟨_, rfl⟩), fun z => (by cases z)⟩
    · exact ⟨_, p7, fun u z => (by cases z; exact ⟨_, rfl⟩), fun z => (by cases z)⟩
    · exact ⟨_, p8, fun u z => (by cases z; exact ⟨_, rfl⟩), fun z => (by cases z)⟩
    · exact ⟨_, p9, fun u z => (by cases z), fun _ => rfl⟩
    · exact ⟨_, p10, fun u z => (by cases z; exact ⟨_, rfl⟩), fun z => (by cases z)⟩
    · exact ⟨_, p11, fun u z => (by cases z), fun _ => rfl⟩
    · exact ⟨_, p12, fun u z => (by cases z), fun _ => rfl⟩
    · exact ⟨_, p13, fun u z => (by cases z; exact ⟨_, rfl⟩), fun z => (by cases z)⟩
    · exact ⟨_, p14, fun u z => (by cases z), fun _ => rfl⟩
    · exact ⟨_, p15, fun u z => (by cases z), fun _ => rfl⟩
    · exact ⟨_, p16, fun u z => (by cases z), fun _ => rfl⟩
    · exact ⟨_, p17, fun u z => (by cases z), fun _ => rfl⟩
    · exact ⟨_, p18, fun u z => (by cases z), fun _ => rfl⟩
    · exact ⟨_, p19, fun u z => (by cases z), fun _ => rfl⟩
    · exact ⟨_, p20, fun u z => (by cases z), fun _ => rfl⟩
    · exact ⟨_, p21, fun u z => (by cases z), fun _ => rfl⟩
  have H_spl : Hs P w K mg base CX0 1 "spelled" (spSpl K) := d_spl.hs X G (ps := ["numbers"]) (fun _ _ _ _ _ _ us hl => match us, hl with | [_], _ => rfl) fun {fd} F => ok_spl B F W
  have R_ask : FnR P w K mg base (L2.CX P w) 3 f_ask (spA K CB CR 1 8) := d_ask.fnr (ps := ["says", "given"]) (fun _ _ _ _ _ _ us hl => match us, hl with | [_, _], _ => rfl) fun {fd} F => ok_ask B F H_cw
  have R_mean : FnR P w K mg base (L2.CX P w) 3 f_mean (spA K CB CR 0 9) := d_mean.fnr (ps := ["says", "given"]) (fun _ _ _ _ _ _ us hl => match us, hl with | [_, _], _ => rfl) fun {fd} F => ok_mean B F H_low
  have R_sway : FnR P w K mg base (L2.CX P w) 3 f_sway (spA K CB CR 1 10) := d_sway.fnr (ps := ["says", "given"]) (fun _ _ _ _ _ _ us hl => match us, hl with | [_, _], _ => rfl) fun {fd} F => ok_sway B F H_low H_cb H_sc
  have R_all : FnR P w K mg base (L2.CX P w) 4 f_all (spA K CB CR 0 11) := d_all.fnr (ps := ["says", "given"]) (fun _ _ _ _ _ _ us hl => match us, hl with | [_, _], _ => rfl) fun {fd} F => ok_all B F H_low H_scs
  have R_even : FnR P w K mg base (L2.CX P w) 3 f_even (spA K CB CR 0 12) := d_even.fnr (ps := ["says", "given"]) (fun _ _ _ _ _ _ us hl => match us, hl with | [_, _], _ => rfl) fun {fd} F => ok_even B F H_low
  have R_part : FnR P w K mg base (L2.CX P w) 4 f_part (spA K CB CR 1 13) := d_part.fnr (ps := ["says", "given"]) (fun _ _ _ _ _ _ us hl => match us, hl with | [_, _], _ => rfl) fun {fd} F => ok_part B F H_low H_cw H_ps
  have R_parts : FnR P w K mg base (L2.CX P w) 5 f_parts (spA K CB CR 0 14) := d_parts.fnr (ps := ["says", "given"]) (fun _ _ _ _ _ _ us hl => match us, hl with | [_, _], _ => rfl) fun {fd} F => ok_parts B F H_low H_pp
  have R_levels : FnR P w K mg base (L2.CX P w) 6 f_levels (spA K CB CR 0 15) := d_levels.fnr (ps := ["says", "given"]) (fun _ _ _ _ _ _ us hl => match us, hl with | [_, _], _ => rfl) fun {fd} F => ok_levels B F H_low H_ls
  have R_sides : FnR P w K mg base (L2.CX P w) 5 f_sides (spA K CB CR 0 16) := d_sides.fnr (ps := ["says", "given"]) (fun _ _ _ _ _ _ us hl => match us, hl with | [_, _], _ => rfl) fun {fd} F => ok_sides B F H_sd
  have R_fewest : FnR P w K mg base (L2.CX P w) 5 f_fewest (spA K CB CR 0 17) := d_fewest.fnr (ps := ["says", "given"]) (fun _ _ _ _ _ _ us hl => match us, hl with | [_, _], _ => rfl) fun {fd} F => ok_fewest B F H_sd H_fw
  have R_rising : FnR P w K mg base (L2.CX P w) 3 f_rising (spA K CB CR 0 18) := d_rising.fnr (ps := ["says", "given"]) (fun _ _ _ _ _ _ us hl => match us, hl with | [_, _], _ => rfl) fun {fd} F => ok_rising B F H_ir
  have R_idle : FnR P w K mg base (L2.CX P w) 4 f_idle (spA K CB CR 0 19) := d_idle.fnr (ps := ["says", "given"]) (fun _ _ _ _ _ _ us hl => match us, hl with | [_, _], _ => rfl) fun {fd} F => ok_idle B F H_scs
  have R_most : FnR P w K mg base (L2.CX P w) 4 f_most (spA K CB CR 0 20) := d_most.fnr (ps := ["says", "given"]) (fun _ _ _ _ _ _ us hl => match us, hl with | [_, _], _ => rfl) fun {fd} F => ok_most B F H_low H_scs
  have R_state : FnR P w K mg base (L2.CX P w) 3 f_state (spA K CB CR 0 21) := d_state.fnr (ps := ["says", "given"]) (fun _ _ _ _ _ _ us hl => match us, hl with | [_, _], _ => rfl) fun {fd} F => ok_state B F H_wy H_bc
  have R_told : FnR P w K mg base (L2.CX P w) 6 f_told (spM K TT CB CR 0 1) := d_told.fnr (ps := ["says", "given"]) (fun _ _ _ _ _ _ us hl => match us, hl with | [_, _], _ => rfl) fun {fd} F => ok_told B F H_yw T_told RR (mgO k32) H_cw
  have R_least : FnR P w K mg base (L2.CX P w) 6 f_least (spM K TT CB CR 1 2) := d_least.fnr (ps := ["says", "given"]) (fun _ _ _ _ _ _ us hl => match us, hl with | [_, _], _ => rfl) fun {fd} F => ok_least B F H_yw T_least RR (mgO k9) H_bc H_wo
  have R_odd : FnR P w K mg base (L2.CX P w) 6 f_odd (spM K TT CB CR 1 3) := d_odd.fnr (ps := ["says", "given"]) (fun _ _ _ _ _ _ us hl => match us, hl with | [_, _], _ => rfl) fun {fd} F => ok_odd F H_yw T_odd H_cw H_mo
  have R_bit : FnR P w K mg base (L2.CX P w) 6 f_bit (spM K TT CB CR 1 4) := d_bit.fnr (ps := ["says", "given"]) (fun _ _ _ _ _ _ us hl => match us, hl with | [_, _], _ => rfl) fun {fd} F => ok_bit F H_yw T_bit H_cb H_hb
  have R_not : FnR P w K mg base (L2.CX P w) 6 f_not (spM K TT CB CR 0 5) := d_not.fnr (ps := ["says", "given"]) (fun _ _ _ _ _ _ us hl => match us, hl with | [_, _], _ => rfl) fun {fd} F => ok_not F H_yw T_not
  have R_turn : FnR P w K mg base (L2.CX P w) 6 f_turn (spM K TT CB CR 1 6) := d_turn.fnr (ps := ["says", "given"]) (fun _ _ _ _ _ _ us hl => match us, hl with | [_, _], _ => rfl) fun {fd} F => ok_turn F H_yw T_turn H_cb H_tu
  have R_set : FnR P w K mg base (L2.CX P w) 3 f_set (spM K TT CB CR 2 7) := d_set.fnr (ps := ["says", "given"]) (fun _ _ _ _ _ _ us hl => match us, hl with | [_, _], _ => rfl) fun {fd} F => ok_set B F RR H_cw
  have D : Dm P w K mg base TT CB CR DM DA := by
    refine ⟨mgO dM.ns, mgO dA.ns, dM.ex, dA.ex, fun c h1 h7 => ?_, fun c h8 h21 => ?_, fun c h8 h21 => ?_⟩
    · have : c = 1 ∨ c = 2 ∨ c = 3 ∨ c = 4 ∨ c = 5 ∨ c = 6 ∨ c = 7 := by omega
      rcases this with z | z | z | z | z | z | z <;> subst z
      · exact ⟨f_told, m1, d_told.kp, R_told.mono (by decide)⟩
      · exact ⟨f_least, m2, d_least.kp, R_least.mono (by decide)⟩
      · exact ⟨f_odd, m3, d_odd.kp, R_odd.mono (by decide)⟩
      · exact ⟨f_bit, m4, d_bit.kp, R_bit.mono (by decide)⟩
      · exact ⟨f_not, m5, d_not.kp, R_not.mono (by decide)⟩
      · exact ⟨f_turn, m6, d_turn.kp, R_turn.mono (by decide)⟩
      · exact ⟨f_set, m7, d_set.kp, R_set.mono (by decide)⟩
    · have : c = 8 ∨ c = 9 ∨ c = 10 ∨ c = 11 ∨ c = 12 ∨ c = 13 ∨ c = 14 ∨ c = 15 ∨ c = 16 ∨ c = 17 ∨ c = 18 ∨ c = 19 ∨ c = 20 ∨ c = 21 := by omega
      rcases this with z | z | z | z | z | z | z | z | z | z | z | z | z | z <;> subst z
      · exact z8
      · exact z9
      · exact z10
      · exact z11
      · exact z12
      · exact z13
      · exact z14
      · exact z15
      · exact z16
      · exact z17
      · exact z18
      · exact z19
      · exact z20
      · exact z21
    · have : c = 8 ∨ c = 9 ∨ c = 10 ∨ c = 11 ∨ c = 12 ∨ c = 13 ∨ c = 14 ∨ c = 15 ∨ c = 16 ∨ c = 17 ∨ c = 18 ∨ c = 19 ∨ c = 20 ∨ c = 21 := by omega
      rcases this with z | z | z | z | z | z | z | z | z | z | z | z | z | z <;> subst z
      · exact ⟨f_ask, a8, d_ask.kp, R_ask.mono (by decide)⟩
      · exact ⟨f_mean, a9, d_mean.kp, R_mean.mono (by decide)⟩
      · exact ⟨f_sway, a10, d_sway.kp, R_sway.mono (by decide)⟩
      · exact ⟨f_all, a11, d_all.kp, R_all.mono (by decide)⟩
      · exact ⟨f_even, a12, d_even.kp, R_even.mono (by decide)⟩
      · exact ⟨f_part, a13, d_part.kp, R_part.mono (by decide)⟩
      · exact ⟨f_parts, a14, d_parts.kp, R_parts.mono (by decide)⟩
      · exact ⟨f_levels, a15, d_levels.kp, R_levels.mono (by decide)⟩
      · exact ⟨f_sides, a16, d_sides.kp, R_sides.mono (by decide)⟩
      · exact ⟨f_fewest, a17, d_fewest.kp, R_fewest.mono (by decide)⟩
      · exact ⟨f_rising, a18, d_rising.kp, R_rising.mono (by decide)⟩
      · exact ⟨f_idle, a19, d_idle.kp, R_idle.mono (by decide)⟩
      · exact ⟨f_most, a20, d_most.kp, R_most.mono (by decide)⟩
      · exact ⟨f_state, a21, d_state.kp, R_state.mono (by decide)⟩
  obtain ⟨fd_ini, G_ini, b_ini⟩ := d_ini.fn_ (P := P) (w := w) (mg := mg) (base := base) (ps := ["self"]) (fun _ _ _ _ _ _ us hl => match us, hl with | [_], _ => rfl) fun {fd} F => ok_ini F L
  obtain ⟨fd_beg, G_beg, b_beg⟩ := d_beg.fn_ (P := P) (w := w) (mg := mg) (base := base) (ps := ["self", "bits"]) (fun _ _ _ _ _ _ us hl => match us, hl with | [_, _], _ => rfl) fun {fd} F => ok_beg F L RR (mgO k5) H_nta
  obtain ⟨fd_ob, G_ob, b_ob⟩ := d_ob.fn_ (P := P) (w := w) (mg := mg) (base := base) (ps := ["self", "name", "given"]) (fun _ _ _ _ _ _ us hl => match us, hl with | [_, _, _], _ => rfl) fun {fd} F => ok_ob B F L RN D d_beg.meth G_beg b_beg
  obtain ⟨fd_rep, G_rep, b_rep⟩ := d_rep.fn_ (P := P) (w := w) (mg := mg) (base := base) (ps := ["self", "name", "given"]) (fun _ _ _ _ _ _ us hl => match us, hl with | [_, _, _], _ => rfl) fun {fd} F => ok_rep F L RB.gC RN.gC RR.gC X3 d_ob.meth G_ob b_ob
  exact ok_ans B FA L ⟨mkC, d_ini.at_, d_ini.fn, kC⟩ G_ini b_ini d_rep.meth G_rep b_rep H_spl
end Bw
open PySem PySem.W PyProof.Rows
set_option maxRecDepth 100000 in
set_option maxHeartbeats 8000000 in
theorem PySem.Challenge.cw_bitsways_s01_answers_holds : PySem.Challenge.rw_bitsways_s01_answers.Holds := by
  w_on; k_headS; (case hw => exact ⟨[.list [.int 21]], by decide +kernel, by decide +kernel⟩)
  k_fillS
  refine Bw.walk_tabs (r := PySem.Challenge.rw_bitsways_s01_answers) (k := 9) (ps := ["calls"]) (sp := fun K cs => Bw.spAns K (Bw.tOf cs)) (by decide +kernel) rfl rfl ⟨rfl, by decide, by decide⟩ (fun w h Y => PySem.W.kIn_of Y) ?F ?S
  case F =>
    intro w mean mg mb fa h Y KX T hmg
    refine' Bw.all_mk KX T.g T hmg ?d_gcd ?d_low ?d_nta ?d_bc ?d_hb ?d_tu ?d_wb ?d_sz ?d_mo ?d_wy ?d_ps ?d_pp ?d_ls ?d_cb ?d_cw ?d_sc ?d_scs ?d_sd ?d_fw ?d_ir ?d_ask ?d_mean ?d_sway ?d_all ?d_even ?d_part ?d_parts ?d_levels ?d_sides ?d_fewest ?d_rising ?d_idle ?d_most ?d_state ?d_yw ?d_wo ?d_set ?d_spl ?d_ans ?d_told ?d_least ?d_odd ?d_bit ?d_not ?d_turn ?q_told ?q_least ?q_odd ?q_bit ?q_not ?q_turn ?hnd ?d_ini ?d_rep ?d_ob ?d_beg ?aC ?cl ?nS ?mkC ?kC ?eB ?eN ?eR ?sBB ?sNB ?sNN ?sRB ?sRN ?sRR ?dM ?dA ?dP ?tN ?tW ?m1 ?m2 ?m3 ?m4 ?m5 ?m6 ?m7 ?z8 ?z9 ?z10 ?z11 ?z12 ?z13 ?z14 ?z15 ?z16 ?z17 ?z18 ?z19 ?z20 ?z21 ?a8 ?a9 ?a10 ?a11 ?a12 ?a13 ?a14 ?a15 ?a16 ?a17 ?a18 ?a19 ?a20 ?a21 ?p0 ?p1 ?p2 ?p3 ?p4 ?p5 ?p6 ?p7 ?p8 ?p9 ?p10 ?p11 ?p12 ?p13 ?p14 ?p15 ?p16 ?p17 ?p18 ?p19 ?p20 ?p21 ?k32 ?k9 ?k5 ?n_len ?n_range ?n_sum ?n_max ?n_enumerate ?n_list
    (case d_gcd => refine' Bw.mkDf ?n ?l ?c ?k; (case n => k_is); (case l => k_is); (case c => k_is); (case k => k_is))
    (case d_low => refine' Bw.mkDf ?n ?l ?c ?k; (case n => k_is); (case l => k_is); (case c => k_is); (case k => k_is))
    (case d_nta => refine' Bw.mkDf ?n ?l ?c ?k; (case n => k_is); (case l => k_is); (case c => k_is); (case k => k_is))
    (case d_bc => refine' Bw.mkDf ?n ?l ?c ?k; (case n => k_is); (case l => k_is); (case c => k_is); (case k => k_is))
    (case d_hb => refine' Bw.mkDf ?n ?l ?c ?k; (case n => k_is); (case l => k_is); (case c => k_is); (case k => k_is))
    (case d_tu => refine' Bw.mkDf ?n ?l ?c ?k; (case n => k_is); (case l => k_is); (case c => k_is); (case k => k_is))
    (case d_wb => refine' Bw.mkDf ?n ?l ?c ?k; (case n => k_is); (case l => k_is); (case c => k_is); (case k => k_is))
    (case d_sz => refine' Bw.mkDf ?n ?l ?c ?k; (case n => k_is); (case l => k_is); (case c => k_is); (case k => k_is))
    (case d_mo => refine' Bw.mkDf ?n ?l ?c ?k; (case n => k_is); (case l => k_is); (case c => k_is); (case k => k_is))
    (case d_wy => refine' Bw.mkDf ?n ?l ?c ?k; (case n => k_is); (case l => k_is); (case c => k_is); (case k => k_is))
    (case d_ps => refine' Bw.mkDf ?n ?l ?c ?k; (case n => k_is); (case l => k_is); (case c => k_is); (case k => k_is))
    (case d_pp => refine' Bw.mkDf ?n ?l ?c ?k; (case n => k_is); (case l => k_is); (case c => k_is); (case k => k_is))
    (case d_ls => refine' Bw.mkDf ?n ?l ?c ?k; (case n => k_is); (case l => k_is); (case c => k_is); (case k => k_is))
    (case d_cb => refine' Bw.mkDf ?n ?l ?c ?k; (case n => k_is); (case l => k_is); (case c => k_is); (case k => k_is))
    (case d_cw => refine' Bw.mkDf ?n ?l ?c ?k; (case n => k_is); (case l => k_is); (case c => k_is); (case k => k_is))
    (case d_sc => refine' Bw.mkDf ?n ?l ?c ?k; (case n => k_is); (case l => k_is); (case c => k_is); (case k => k_is))
    (case d_scs => refine' Bw.mkDf ?n ?l ?c ?k; (case n => k_is); (case l => k_is); (case c => k_is); (case k => k_is))
    (case d_sd => refine' Bw.mkDf ?n ?l ?c ?k; (case n => k_is); (case l => k_is); (case c => k_is); (case k => k_is))
    (case d_fw => refine' Bw.mkDf ?n ?l ?c ?k; (case n => k_is); (case l => k_is); (case c => k_is); (case k => k_is))
    (case d_ir => refine' Bw.mkDf ?n ?l ?c ?k; (case n => k_is); (case l => k_is); (case c => k_is); (case k => k_is))
    (case d_ask => refine' Bw.mkDf ?n ?l ?c ?k; (case n => k_is); (case l => k_is); (case c => k_is); (case k => k_is))
    (case d_mean => refine' Bw.mkDf ?n ?l ?c ?k; (case n => k_is); (case l => k_is); (case c => k_is); (case k => k_is))
    (case d_sway => refine' Bw.mkDf ?n ?l ?c ?k; (case n => k_is); (case l => k_is); (case c => k_is); (case k => k_is))
    (case d_all => refine' Bw.mkDf ?n ?l ?c ?k; (case n => k_is); (case l => k_is); (case c => k_is); (case k => k_is))
    (case d_even => refine' Bw.mkDf ?n ?l ?c ?k; (case n => k_is); (case l => k_is); (case c => k_is); (case k => k_is))
    (case d_part => refine' Bw.mkDf ?n ?l ?c ?k; (case n => k_is); (case l => k_is); (case c => k_is); (case k => k_is))
    (case d_parts => refine' Bw.mkDf ?n ?l ?c ?k; (case n => k_is); (case l => k_is); (case c => k_is); (case k => k_is))
    (case d_levels => refine' Bw.mkDf ?n ?l ?c ?k; (case n => k_is); (case l => k_is); (case c => k_is); (case k => k_is))
    (case d_sides => refine' Bw.mkDf ?n ?l ?c ?k; (case n => k_is); (case l => k_is); (case c => k_is); (case k => k_is))
    (case d_fewest => refine' Bw.mkDf ?n ?l ?c ?k; (case n => k_is); (case l => k_is); (case c => k_is); (case k => k_is))
    (case d_rising => refine' Bw.mkDf ?n ?l ?c ?k; (case n => k_is); (case l => k_is); (case c => k_is); (case k => k_is))
    (case d_idle => refine' Bw.mkDf ?n ?l ?c ?k; (case n => k_is); (case l => k_is); (case c => k_is); (case k => k_is))
    (case d_most => refine' Bw.mkDf ?n ?l ?c ?k; (case n => k_is); (case l => k_is); (case c => k_is); (case k => k_is))
    (case d_state => refine' Bw.mkDf ?n ?l ?c ?k; (case n => k_is); (case l => k_is); (case c => k_is); (case k => k_is))
    (case d_yw => refine' Bw.mkDf ?n ?l ?c ?k; (case n => k_is); (case l => k_is); (case c => k_is); (case k => k_is))
    (case d_wo => refine' Bw.mkDf ?n ?l ?c ?k; (case n => k_is); (case l => k_is); (case c => k_is); (case k => k_is))
    (case d_set => refine' Bw.mkDf ?n ?l ?c ?k; (case n => k_is); (case l => k_is); (case c => k_is); (case k => k_is))
    (case d_spl => refine' Bw.mkDf ?n ?l ?c ?k; (case n => k_is); (case l => k_is); (case c => k_is); (case k => k_is))
    (case d_ans => refine' Bw.mkDf ?n ?l ?c ?k; (case n => k_is); (case l => k_is); (case c => k_is); (case k => k_is))
    (case d_told => refine' Bw.mkDc ?n ?l ?c ?k ?d ?v ?o; (case n => k_is); (case l => k_is); (case c => k_is); (case k => k_is); (case d => k_is); (case v => rfl); (case o => rfl))
    (case d_least => refine' Bw.mkDc ?n ?l ?c ?k ?d ?v ?o; (case n => k_is); (case l => k_is); (case c => k_is); (case k => k_is); (case d => k_is); (case v => rfl); (case o => rfl))
    (case d_odd => refine' Bw.mkDc ?n ?l ?c ?k ?d ?v ?o; (case n => k_is); (case l => k_is); (case c => k_is); (case k => k_is); (case d => k_is); (case v => rfl); (case o => rfl))
    (case d_bit => refine' Bw.mkDc ?n ?l ?c ?k ?d ?v ?o; (case n => k_is); (case l => k_is); (case c => k_is); (case k => k_is); (case d => k_is); (case v => rfl); (case o => rfl))
    (case d_not => refine' Bw.mkDc ?n ?l ?c ?k ?d ?v ?o; (case n => k_is); (case l => k_is); (case c => k_is); (case k => k_is); (case d => k_is); (case v => rfl); (case o => rfl))
    (case d_turn => refine' Bw.mkDc ?n ?l ?c ?k ?d ?v ?o; (case n => k_is); (case l => k_is); (case c => k_is); (case k => k_is); (case d => k_is); (case v => rfl); (case o => rfl))
    (case aC => k_is)
    (case d_ini => refine' Bw.mkDm ?a ?f ?l ?c ?k; (case a => k_is); (case f => k_is); (case l => k_is); (case c => k_is); (case k => k_is))
    (case d_rep => refine' Bw.mkDm ?a ?f ?l ?c ?k; (case a => k_is); (case f => k_is); (case l => k_is); (case c => k_is); (case k => k_is))
    (case d_ob => refine' Bw.mkDm ?a ?f ?l ?c ?k; (case a => k_is); (case f => k_is); (case l => k_is); (case c => k_is); (case k => k_is))
    (case d_beg => refine' Bw.mkDm ?a ?f ?l ?c ?k; (case a => k_is); (case f => k_is); (case l => k_is); (case c => k_is); (case k => k_is))
    (case hnd => decide +kernel)
    (case q_told => rfl)
    (case q_least => rfl)
    (case q_odd => rfl)
    (case q_bit => rfl)
    (case q_not => rfl)
    (case q_turn => rfl)
    (case cl => refine' Bw.mkCl ?a ?b ?c ?d; (case a => k_is); (case b => k_is); (case c => k_is); (case d => k_is))
    (case nS => refine' Bw.mkNs ?a; (case a => k_is))
    (case mkC => k_is); (case kC => k_is)
    (case eB => refine' Bw.mkEc ?a ?b ?c ?d ?e ?f; (case a => k_is); (case b => k_exc); (case c => k_is); (case d => k_is); (case e => k_is); (case f => k_is))
    (case eN => refine' Bw.mkEc ?a ?b ?c ?d ?e ?f; (case a => k_is); (case b => k_exc); (case c => k_is); (case d => k_is); (case e => k_is); (case f => k_is))
    (case eR => refine' Bw.mkEc ?a ?b ?c ?d ?e ?f; (case a => k_is); (case b => k_exc); (case c => k_is); (case d => k_is); (case e => k_is); (case f => k_is))
    (case sBB => first | rfl | k_is); (case sNB => first | rfl | k_is); (case sNN => first | rfl | k_is); (case sRB => first | rfl | k_is); (case sRN => first | rfl | k_is); (case sRR => first | rfl | k_is)
    (case dM => refine' Bw.mkDw ?a ?b ?c ?d; (case a => k_is); (case b => k_is); (case d => rfl); (case c => repeat (first | exact trivial | refine ⟨⟨_, _, rfl, rfl⟩, ?_⟩)))
    (case dA => refine' Bw.mkDw ?a ?b ?c ?d; (case a => k_is); (case b => k_is); (case d => rfl); (case c => repeat (first | exact trivial | refine ⟨⟨_, _, rfl, rfl⟩, ?_⟩)))
    (case dP => refine' Bw.mkDw ?a ?b ?c ?d; (case a => k_is); (case b => k_is); (case d => rfl); (case c => repeat (first | exact trivial | refine ⟨⟨_, _, rfl, rfl⟩, ?_⟩)))
    (case tN => refine' Bw.mkTw ?a ?b ?c ?d ?e ?f; (case a => k_is); (case b => k_is); (case c => rfl); (case d => rfl); (case e => decide); (case f => repeat (first | exact .nil | refine .cons ⟨_, rfl⟩ ?_)))
    (case tW => refine' Bw.mkTw ?a ?b ?c ?d ?e ?f; (case a => k_is); (case b => k_is); (case c => rfl); (case d => rfl); (case e => decide); (case f => repeat (first | exact .nil | refine .cons ⟨_, rfl⟩ ?_)))
    (case m1 => k_is)
    (case m2 => k_is)
    (case m3 => k_is)
    (case m4 => k_is)
    (case m5 => k_is)
    (case m6 => k_is)
    (case m7 => k_is)
    (case z8 => k_is)
    (case z9 => k_is)
    (case z10 => k_is)
    (case z11 => k_is)
    (case z12 => k_is)
    (case z13 => k_is)
    (case z14 => k_is)
    (case z15 => k_is)
    (case z16 => k_is)
    (case z17 => k_is)
    (case z18 => k_is)
    (case z19 => k_is)
    (case z20 => k_is)
    (case z21 => k_is)
    (case a8 => k_is)
    (case a9 => k_is)
    (case a10 => k_is)
    (case a11 => k_is)
    (case a12 => k_is)
    (case a13 => k_is)
    (case a14 => k_is)
    (case a15 => k_is)
    (case a16 => k_is)
    (case a17 => k_is)
    (case a18 => k_is)
    (case a19 => k_is)
    (case a20 => k_is)
    (case a21 => k_is)
    (case p0 => k_is)
    (case p1 => k_is)
    (case p2 => k_is)
    (case p3 => k_is)
    (case p4 => k_is)
    (case p5 => k_is)
    (case p6 => k_is)
    (case p7 => k_is)
    (case p8 => k_is)
    (case p9 => k_is)
    (case p10 => k_is)
    (case p11 => k_is)
    (case p12 => k_is)
    (case p13 => k_is)
    (case p14 => k_is)
    (case p15 => k_is)
    (case p16 => k_is)
    (case p17 => k_is)
    (case p18 => k_is)
    (case p19 => k_is)
    (case p20 => k_is)
    (case p21 => k_is)
    (case k32 => k_is)
    (case k9 => k_is)
    (case k5 => k_is)
    (case n_len => k_is)
    (case n_range => k_is)
    (case n_sum => k_is)
    (case n_max => k_is)
    (case n_enumerate => k_is)
    (case n_list => k_is)
  case S =>
    intro K cs H0 H xs a hwi hask hx hs ht
    cases hx with
    | cons h1 h2 =>
      cases h2
      cases h1 with
      | lst hl ha =>
        have e := L2.ints_dw a.1 _ ha
        subst e
        have q : ((Codec.inLen 0 10400 a.1 && a.1.all (Codec.inInt 0 4294967295)) && true) = true := hwi
        rw [Bool.and_eq_true, Bool.and_eq_true] at q
        obtain ⟨cs0, e1, e2, e3⟩ := Bw.asked_of (Codec.inNat_iff.mp q.1.1).2 (fun z hz => (Codec.inInt_iff.mp (List.all_eq_true.mp q.1.2 z hz)).1) hask
        refine ⟨_, cs0, rfl, by rw [← e1]; exact hs.seq hl, e2, Bw.tabs_of ht, fun H' p hp => ?_⟩
        rw [← e3] at hp
        exact .lst (L2.SqL.of hp) (L2.dw_ints _)
#print axioms PySem.Challenge.cw_bitsways_s01_answers_holds
