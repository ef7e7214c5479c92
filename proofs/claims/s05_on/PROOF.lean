import PyProof.Rows.All
import Wide.All
import OpenK.AllK
import Wide.FinOn
import Open.SpecLaws
import KE.OsGo
import HandS.Base
import HandS.Call
import HandS.List
import HandS.Comp
import HandS.Ends
import HandS.Iter
import HandS.Spec
import HandS.Words
import HandS.WordsList
import PySem.Challenge.RW_leavefor_s05_on
set_option Elab.async false
set_option maxRecDepth 100000
set_option maxHeartbeats 2000000
namespace Lv
open Ks468

/-! The house's look -/
theorem two_len : ∀ (k : List Nat), (two k).length = k.length / 2
  | [] => rfl
  | [_] => by simp [two]
  | _ :: _ :: l => by
    show (two l).length + 1 = (l.length + 1 + 1) / 2
    rw [two_len l]
    omega
theorem two_get : ∀ (k : List Nat) (i : Nat), 2 * i + 1 < k.length → (two k)[i]? = some (k.getD (2 * i) 0, k.getD (2 * i + 1) 0)
  | [], i, h => absurd h (Nat.not_lt_zero _)
  | [_], i, h => by simp at h
  | a :: b :: l, 0, h => rfl
  | a :: b :: l, i + 1, h => by
    have h2 : 2 * i + 1 < l.length := by
      simp only [List.length_cons] at h
      omega
    have ih := two_get l i h2
    show (two l)[i]? = some ((a :: b :: l).getD (2 * i + 1 + 1) 0, (a :: b :: l).getD (2 * i + 1 + 1 + 1) 0)
    rw [ih]
    rfl
def okM (m : Nat) : Bool := decide (1 ≤ m) && decide (m ≤ 10)
def okS (a : List Nat) : Bool := decide (1 ≤ a.length) && decide (a.length ≤ 6) && a.all fun s => decide (1 ≤ s) && decide (s ≤ 200)
def okT (n : Nat) (x : Nat × Nat) : Bool := decide (x.1 < n) && decide (x.2 < n) && x.1 != x.2
def okK (n : Nat) (k : List Nat) : Bool := decide (k.length % 2 = 0) && decide (k.length ≤ 40) && (two k).all (okT n)
def okAll (m : Nat) (a k : List Nat) : Bool := okM m && (okS a && okK a.length k)
theorem given_ok (m : Nat) (a k : List Nat) (f : House → Ans) : given m a k f = if okAll m a k = true then f ⟨a, m, two k⟩ else no (-22) := by
  unfold given
  by_cases c : k.length % 2 ≠ 0 ∨ 40 < k.length
  · rw [if_pos c]
    have e : okAll m a k = false := by
      have e2 : okK a.length k = false := by
        unfold okK
        rcases c with c | c
        · have : decide (k.length % 2 = 0) = false := decide_eq_false c
          rw [this]
          rfl
        · have : decide (k.length ≤ 40) = false := decide_eq_false (by omega)
          rw [this, Bool.and_false]
          rfl
      unfold okAll
      rw [e2, Bool.and_false, Bool.and_false]
    rw [e]
    rfl
  · rw [if_neg c]
    have c1 : k.length % 2 = 0 := by omega
    have c2 : k.length ≤ 40 := by omega
    have e : okHouse ⟨a, m, two k⟩ = okAll m a k := by
      unfold okAll okK okM okS okHouse
      have d1 : decide (k.length % 2 = 0) = true := decide_eq_true c1
      have d2 : decide (k.length ≤ 40) = true := decide_eq_true c2
      rw [d1, d2]
      show (decide (1 ≤ a.length) && decide (a.length ≤ 6) && decide (1 ≤ m) && decide (m ≤ 10) && (a.all fun s => decide (1 ≤ s) && decide (s ≤ 200)) && (two k).all (okT a.length)) = (decide (1 ≤ m) && decide (m ≤ 10) && ((decide (1 ≤ a.length) && decide (a.length ≤ 6) && a.all fun s => decide (1 ≤ s) && decide (s ≤ 200)) && (true && true && (two k).all (okT a.length))))
      generalize decide (1 ≤ a.length) = b1
      generalize decide (a.length ≤ 6) = b2
      generalize decide (1 ≤ m) = b3
      generalize decide (m ≤ 10) = b4
      generalize (a.all fun s => decide (1 ≤ s) && decide (s ≤ 200)) = b5
      generalize (two k).all (okT a.length) = b6
      cases b1 <;> cases b2 <;> cases b3 <;> cases b4 <;> cases b5 <;> cases b6 <;> rfl
    show (if okHouse ⟨a, m, two k⟩ = true then f ⟨a, m, two k⟩ else no (-22)) = _
    rw [e]

/-! What a house that is let in has -/
structure Fit (m : Nat) (a k : List Nat) : Prop where
  m1 : 1 ≤ m
  m2 : m ≤ 10
  a1 : 1 ≤ a.length
  a2 : a.length ≤ 6
  as : ∀ x ∈ a, 1 ≤ x ∧ x ≤ 200
  k1 : k.length % 2 = 0
  k2 : k.length ≤ 40
  ks : ∀ x ∈ two k, x.1 < a.length ∧ x.2 < a.length
theorem fit_of {m : Nat} {a k : List Nat} (h : okAll m a k = true) : Fit m a k := by
  simp only [okAll, okM, okS, okK, okT, Bool.and_eq_true, decide_eq_true_eq, List.all_eq_true] at h
  obtain ⟨⟨h1, h2⟩, ⟨⟨h3, h4⟩, h5⟩, ⟨h6, h7⟩, h8⟩ := h
  exact ⟨h1, h2, h3, h4, h5, h6, h7, fun x hx => (h8 x hx).1⟩

/-! Who may govern -/
def mem (n s : Nat) : List Nat := (List.range n).filter fun i => s.testBit i
theorem members_mem (h : House) (s : Nat) : members h s = mem h.seats.length s := rfl
theorem mem_mem {n s i : Nat} : i ∈ mem n s ↔ i < n ∧ s.testBit i = true := by
  unfold mem
  rw [List.mem_filter, List.mem_range]
def held (a : List Nat) (s : Nat) : Nat := ((mem a.length s).map fun i => a.getD i 0).sum
def most (a : List Nat) (s : Nat) : Bool := decide (a.sum < 2 * held a s)
def hateIn (s : Nat) (ps : List (Nat × Nat)) : Bool := ps.any fun x => s.testBit x.1 && s.testBit x.2
def gov (a k : List Nat) (s : Nat) : Bool := most a s && !hateIn s (two k)
theorem foldl_sum (g : Nat → Nat) : ∀ (l : List Nat) (z : Nat), l.foldl (fun k i => k + g i) z = z + (l.map g).sum
  | [], z => rfl
  | x :: r, z => by
    show r.foldl (fun k i => k + g i) (z + g x) = z + (g x + (r.map g).sum)
    rw [foldl_sum g r]
    omega
theorem range_getD : ∀ (a : List Nat), (List.range a.length).map (fun i => a.getD i 0) = a := by
  intro a
  apply List.ext_getElem
  · simp
  · intro i h1 h2
    simp [h2]
theorem seatsOf_held (h : House) (s : Nat) : seatsOf h (members h s) = held h.seats s := by
  unfold seatsOf
  rw [foldl_sum (seat h)]
  show 0 + ((mem h.seats.length s).map (seat h)).sum = _
  rw [Nat.zero_add]
  rfl
theorem seatsOf_all (h : House) : seatsOf h (parties h) = h.seats.sum := by
  unfold seatsOf
  rw [foldl_sum (seat h), Nat.zero_add]
  exact congrArg List.sum (range_getD h.seats)
theorem may_gov {m : Nat} {a k : List Nat} (f : Fit m a k) (s : Nat) : may ⟨a, m, two k⟩ s = gov a k s := by
  unfold may gov most
  rw [seatsOf_held, seatsOf_all]
  refine congrArg (decide (a.sum < 2 * held a s) && ·) ?_
  rw [Bool.eq_iff_iff]
  rw [List.all_eq_true, Bool.not_eq_true']
  unfold hateIn
  rw [List.any_eq_false]
  constructor
  · intro h x hx c
    rw [Bool.and_eq_true] at c
    obtain ⟨q1, q2⟩ := f.ks x hx
    have h1 := h x.1 (mem_mem.mpr ⟨q1, c.1⟩)
    rw [List.all_eq_true] at h1
    have h2 := h1 x.2 (mem_mem.mpr ⟨q2, c.2⟩)
    unfold hate at h2
    rw [Bool.not_eq_true', Bool.or_eq_false_iff] at h2
    have h3 : (two k).contains (x.1, x.2) = true := List.contains_iff_mem.mpr hx
    rw [h2.1] at h3
    cases h3
  · intro h i hi
    rw [List.all_eq_true]
    intro j hj
    have q1 := (mem_mem.mp hi).2
    have q2 := (mem_mem.mp hj).2
    unfold hate
    rw [Bool.not_eq_true', Bool.or_eq_false_iff]
    constructor
    · rw [Bool.eq_false_iff]
      intro c
      exact h (i, j) (List.contains_iff_mem.mp c) (by rw [Bool.and_eq_true]; exact ⟨q1, q2⟩)
    · rw [Bool.eq_false_iff]
      intro c
      exact h (j, i) (List.contains_iff_mem.mp c) (by rw [Bool.and_eq_true]; exact ⟨q2, q1⟩)

/-! The offices -/
def pick (a d : List Nat) (b i : Nat) : Nat := if a.getD b 0 * (d.getD i 0 + 1) < a.getD i 0 * (d.getD b 0 + 1) then i else b
def whose (a d ms : List Nat) : Nat := ms.foldl (pick a d) (ms.headD 0)
def offs (a ms : List Nat) : Nat → List Nat
  | 0 => List.replicate 6 0
  | k + 1 => (offs a ms k).set (whose a (offs a ms k) ms) ((offs a ms k).getD (whose a (offs a ms k) ms) 0 + 1)
theorem pick_self (a d : List Nat) (b : Nat) : pick a d b b = b := by
  unfold pick
  rw [if_neg (Nat.lt_irrefl _)]
theorem offs_len (a ms : List Nat) : ∀ k, (offs a ms k).length = 6
  | 0 => rfl
  | k + 1 => by
    show ((offs a ms k).set _ _).length = 6
    rw [List.length_set, offs_len a ms k]
theorem pick_or (a d : List Nat) (b i : Nat) : pick a d b i = b ∨ pick a d b i = i := by
  unfold pick
  split
  · exact .inr rfl
  · exact .inl rfl
theorem fold_pick_mem (a d : List Nat) : ∀ (l : List Nat) (b : Nat), l.foldl (pick a d) b = b ∨ l.foldl (pick a d) b ∈ l
  | [], b => .inl rfl
  | x :: r, b => by
    show r.foldl (pick a d) (pick a d b x) = b ∨ r.foldl (pick a d) (pick a d b x) ∈ x :: r
    rcases fold_pick_mem a d r (pick a d b x) with h | h
    · rw [h]
      rcases pick_or a d b x with e | e
      · exact .inl e
      · rw [e]
        exact .inr List.mem_cons_self
    · exact .inr (List.mem_cons_of_mem _ h)
theorem whose_mem (a d ms : List Nat) (hm : ms ≠ []) : whose a d ms ∈ ms := by
  unfold whose
  cases ms with
  | nil => exact absurd rfl hm
  | cons x r =>
    show (x :: r).foldl (pick a d) x ∈ x :: r
    rcases fold_pick_mem a d (x :: r) x with h | h
    · rw [h]
      exact List.mem_cons_self
    · exact h
theorem foldl_same {g1 g2 : Nat → Nat → Nat} (P : Nat → Prop) (hg : ∀ b i, P b → P i → g1 b i = g2 b i ∧ P (g1 b i)) : ∀ (l : List Nat) (b : Nat), P b → (∀ x ∈ l, P x) → l.foldl g1 b = l.foldl g2 b
  | [], _, _, _ => rfl
  | x :: r, b, hb, hl => by
    obtain ⟨e, p⟩ := hg b x hb (hl x List.mem_cons_self)
    show r.foldl g1 (g1 b x) = r.foldl g2 (g2 b x)
    rw [← e]
    exact foldl_same P hg r _ p fun y hy => hl y (List.mem_cons_of_mem _ hy)
theorem deal_more (h : House) (s : Nat) : ∀ (k : Nat) (l : List Nat), deal h s (k + 1) l = deal h s k l ++ [turn h (deal h s k l) (members h s)]
  | 0, _ => rfl
  | k + 1, l => by
    show deal h s (k + 1) (l ++ [turn h l (members h s)]) = _
    rw [deal_more h s k]
    rfl
theorem had_more (l : List Nat) (x i : Nat) : had (l ++ [x]) i = had l i + (if x = i then 1 else 0) := by
  unfold had
  rw [List.filter_append, List.length_append]
  by_cases e : x = i
  · subst e
    simp
  · have : (x == i) = false := by simpa using e
    simp [this, e]
/-- the list of what each has had -/
def hads (l : List Nat) : List Nat := (List.range 6).map (had l)
theorem hads_get {l : List Nat} {i : Nat} (hi : i < 6) : (hads l).getD i 0 = had l i := by
  unfold hads
  rw [List.getD_eq_getElem?_getD, List.getElem?_map, List.getElem?_range hi]
  rfl
theorem turn_whose (h : House) (l ms : List Nat) (hm : ∀ x ∈ ms, x < 6) (hne : ms ≠ []) : turn h l ms = whose h.seats (hads l) ms := by
  cases ms with
  | nil => exact absurd rfl hne
  | cons x r =>
    show r.foldl _ x = (x :: r).foldl (pick h.seats (hads l)) x
    show r.foldl _ x = r.foldl (pick h.seats (hads l)) (pick h.seats (hads l) x x)
    rw [pick_self]
    refine foldl_same (fun i => i < 6) (fun b i hb hi => ?_) r x (hm x List.mem_cons_self) fun y hy => hm y (List.mem_cons_of_mem _ hy)
    have e : (if seat h b * (had l i + 1) < seat h i * (had l b + 1) then i else b) = pick h.seats (hads l) b i := by
      unfold pick
      rw [hads_get hb, hads_get hi]
      rfl
    refine ⟨e, ?_⟩
    rw [e]
    rcases pick_or h.seats (hads l) b i with q | q
    · rw [q]; exact hb
    · rw [q]; exact hi
theorem hads_more {l : List Nat} {p : Nat} (hp : p < 6) : hads (l ++ [p]) = (hads l).set p ((hads l).getD p 0 + 1) := by
  apply List.ext_getElem
  · simp [hads]
  · intro i h1 h2
    have hi : i < 6 := by
      simpa [hads] using h1
    rw [List.getElem_set]
    by_cases e : p = i
    · subst e
      rw [if_pos rfl, hads_get hp]
      simp [hads, had_more]
    · rw [if_neg e]
      simp [hads, had_more, e]
theorem mem_ne {n s : Nat} (h0 : s ≠ 0) (h1 : s < 2 ^ n) : mem n s ≠ [] := by
  obtain ⟨i, hi⟩ := Nat.exists_testBit_of_ne_zero h0
  intro e
  have hin : i < n := by
    refine Nat.lt_of_not_le fun c => ?_
    have := Nat.testBit_lt_two_pow (Nat.lt_of_lt_of_le h1 (Nat.pow_le_pow_right (by decide) c))
    rw [this] at hi
    cases hi
  have : i ∈ mem n s := mem_mem.mpr ⟨hin, hi⟩
  rw [e] at this
  cases this
theorem offs_deal (h : House) (s : Nat) (hn : h.seats.length ≤ 6) (hne : mem h.seats.length s ≠ []) : ∀ k, offs h.seats (mem h.seats.length s) k = hads (deal h s k [])
  | 0 => by
    show List.replicate 6 0 = hads []
    decide
  | k + 1 => by
    have ih := offs_deal h s hn hne k
    have hm : ∀ x ∈ mem h.seats.length s, x < 6 := fun x hx => Nat.lt_of_lt_of_le (mem_mem.mp hx).1 hn
    rw [deal_more, members_mem, turn_whose h _ _ hm hne]
    have hp : whose h.seats (hads (deal h s k [])) (mem h.seats.length s) < 6 := hm _ (whose_mem _ _ _ hne)
    rw [hads_more hp]
    show (offs h.seats (mem h.seats.length s) k).set _ _ = _
    rw [ih]
theorem deal_mem (h : House) (s : Nat) (hne : mem h.seats.length s ≠ []) (hn : h.seats.length ≤ 6) : ∀ k, ∀ x ∈ deal h s k [], x ∈ mem h.seats.length s
  | 0, x, hx => by cases hx
  | k + 1, x, hx => by
    rw [deal_more, List.mem_append] at hx
    rcases hx with hx | hx
    · exact deal_mem h s hne hn k x hx
    · rw [List.mem_singleton] at hx
      subst hx
      have hm : ∀ x ∈ mem h.seats.length s, x < 6 := fun x hx => Nat.lt_of_lt_of_le (mem_mem.mp hx).1 hn
      rw [members_mem, turn_whose h _ _ hm hne]
      exact whose_mem _ _ _ hne
theorem had_none {l : List Nat} {i : Nat} (h : i ∉ l) : had l i = 0 := by
  unfold had
  rw [List.length_eq_zero_iff, List.filter_eq_nil_iff]
  intro x hx c
  rw [beq_iff_eq] at c
  subst c
  exact h hx
theorem gets_hads {h : House} {s : Nat} (hn : h.seats.length ≤ 6) (hne : mem h.seats.length s ≠ []) (i : Nat) : gets h s i = had (deal h s h.offices []) i := by
  unfold gets
  by_cases c : has s i = true
  · rw [if_pos c]
  · rw [if_neg c, had_none]
    intro hx
    exact c (mem_mem.mp (deal_mem h s hne hn _ i hx)).2
def offsOf (m : Nat) (a : List Nat) (s : Nat) : List Nat := offs a (mem a.length s) m
theorem offs_gets {m : Nat} {a : List Nat} {ks : List (Nat × Nat)} {s : Nat} (hn : a.length ≤ 6) (h0 : s ≠ 0) (h1 : s < 2 ^ a.length) : offsOf m a s = (List.range 6).map (gets ⟨a, m, ks⟩ s) := by
  unfold offsOf
  rw [offs_deal ⟨a, m, ks⟩ s hn (mem_ne h0 h1) m]
  unfold hads
  refine List.map_congr_left fun i _ => ?_
  rw [gets_hads (h := ⟨a, m, ks⟩) hn (mem_ne h0 h1)]

/-! The whole answers -/
def zs (l : List Nat) : List Int := l.map Int.ofNat
def dealZ (m s : Nat) (a k : List Nat) : List Int := if okAll m a k = true then (if s = 0 ∨ 2 ^ a.length ≤ s then [-2] else (if gov a k s = true then 1 else 0) :: zs (offsOf m a s)) else [-22]
def govs (a k : List Nat) : List Nat := (List.range' 1 (2 ^ a.length - 1)).filter (gov a k)
def maysZ (m : Nat) (a k : List Nat) : List Int := if okAll m a k = true then ((govs a k).length : Int) :: zs (govs a k) else [-22]
def outZ (x : Ans) : List Int := x.ret :: x.out.map Int.ofNat
theorem deal_is (m s : Nat) (a k : List Nat) : outZ (answer (.deal m s a k)) = dealZ m s a k := by
  show outZ (given m a k _) = _
  rw [given_ok]
  unfold dealZ
  by_cases c : okAll m a k = true
  · rw [if_pos c, if_pos c]
    have f := fit_of c
    show outZ (if s = 0 ∨ 2 ^ a.length ≤ s then no (-2) else _) = _
    by_cases q : s = 0 ∨ 2 ^ a.length ≤ s
    · rw [if_pos q, if_pos q]
      rfl
    · rw [if_neg q, if_neg q]
      show (if may ⟨a, m, two k⟩ s = true then (1 : Int) else 0) :: ((List.range 6).map (gets ⟨a, m, two k⟩ s)).map Int.ofNat = _
      rw [may_gov f, offs_gets (ks := two k) f.a2 (by omega) (by omega)]
      rfl
  · rw [if_neg c, if_neg c]
    rfl
theorem gov_zero (a k : List Nat) : gov a k 0 = false := by
  have e : mem a.length 0 = [] := by
    unfold mem
    rw [List.filter_eq_nil_iff]
    intro x _ c
    rw [Nat.zero_testBit] at c
    cases c
  unfold gov most held
  rw [e]
  simp
theorem mays_govs {m : Nat} {a k : List Nat} (f : Fit m a k) : mays ⟨a, m, two k⟩ = govs a k := by
  unfold mays govs sets
  show (List.range (2 ^ a.length)).filter (may ⟨a, m, two k⟩) = _
  have e : may ⟨a, m, two k⟩ = gov a k := funext fun s => may_gov f s
  rw [e]
  obtain ⟨p, hp⟩ : ∃ p, 2 ^ a.length = p + 1 := ⟨2 ^ a.length - 1, by have := Nat.two_pow_pos a.length; omega⟩
  rw [hp, Nat.add_sub_cancel]
  rw [List.range_eq_range', List.range'_succ, List.filter_cons, gov_zero]
  rfl
theorem mays_is (m : Nat) (a k : List Nat) : outZ (answer (.mays m a k)) = maysZ m a k := by
  show outZ (given m a k _) = _
  rw [given_ok]
  unfold maysZ
  by_cases c : okAll m a k = true
  · rw [if_pos c, if_pos c]
    have f := fit_of c
    show outZ (rows (mays ⟨a, m, two k⟩)) = _
    rw [mays_govs f]
    rfl
  · rw [if_neg c, if_neg c]
    rfl
end Lv
namespace Lv
open Ks468
/-! What is left for, what stands, where it goes on, the best -/
theorem offs_get {m : Nat} {a : List Nat} {ks : List (Nat × Nat)} {s i : Nat} (hn : a.length ≤ 6) (h0 : s ≠ 0) (h1 : s < 2 ^ a.length) (hi : i < 6) : (offsOf m a s).getD i 0 = gets ⟨a, m, ks⟩ s i := by
  rw [offs_gets (ks := ks) hn h0 h1, List.getD_eq_getElem?_getD, List.getElem?_map, List.getElem?_range hi]
  rfl
def more (a d e : List Nat) (t : Nat) : Bool := (mem a.length t).all fun i => decide (d.getD i 0 < e.getD i 0)
def left (m : Nat) (a k : List Nat) (s : Nat) : List Nat := (govs a k).filter fun t => more a (offsOf m a s) (offsOf m a t) t
theorem govs_mem {a k : List Nat} {t : Nat} (h : t ∈ govs a k) : t ≠ 0 ∧ t < 2 ^ a.length ∧ gov a k t = true := by
  unfold govs at h
  rw [List.mem_filter, List.mem_range'_1] at h
  exact ⟨by omega, by omega, h.2⟩
theorem leave_left {m : Nat} {a k : List Nat} (f : Fit m a k) {s : Nat} (h0 : s ≠ 0) (h1 : s < 2 ^ a.length) : leave ⟨a, m, two k⟩ s = left m a k s := by
  have e : leave ⟨a, m, two k⟩ s = (mays ⟨a, m, two k⟩).filter fun t => (members ⟨a, m, two k⟩ t).all fun i => decide (gets ⟨a, m, two k⟩ s i < gets ⟨a, m, two k⟩ t i) := by
    unfold mays leave rather
    rw [List.filter_filter]
    refine List.filter_congr fun t _ => ?_
    rw [Bool.and_comm]
  rw [e, mays_govs f]
  unfold left more
  refine List.filter_congr fun t ht => ?_
  obtain ⟨t0, t1, _⟩ := govs_mem ht
  rw [members_mem]
  rw [Bool.eq_iff_iff, List.all_eq_true, List.all_eq_true]
  have hh : ∀ i ∈ mem a.length t, (gets ⟨a, m, two k⟩ s i < gets ⟨a, m, two k⟩ t i) = ((offsOf m a s).getD i 0 < (offsOf m a t).getD i 0) := fun i hi => by
    have hi6 : i < 6 := Nat.lt_of_lt_of_le (mem_mem.mp hi).1 f.a2
    rw [offs_get (ks := two k) f.a2 h0 h1 hi6, offs_get (ks := two k) f.a2 t0 t1 hi6]
  constructor
  · intro h i hi
    have := h i hi
    rw [decide_eq_true_eq, hh i hi] at this
    exact decide_eq_true this
  · intro h i hi
    have := h i hi
    rw [decide_eq_true_eq, ← hh i hi] at this
    exact decide_eq_true this
theorem left_sub {m : Nat} {a k : List Nat} {s t : Nat} (h : t ∈ left m a k s) : t ∈ govs a k := (List.mem_filter.mp h).1
def stab (m : Nat) (a k : List Nat) : List Nat := (govs a k).filter fun s => (left m a k s).isEmpty
theorem stable_stab {m : Nat} {a k : List Nat} (f : Fit m a k) : stable ⟨a, m, two k⟩ = stab m a k := by
  unfold stable stab
  rw [mays_govs f]
  refine List.filter_congr fun s hs => ?_
  obtain ⟨s0, s1, _⟩ := govs_mem hs
  rw [leave_left f s0 s1]
def onL (m : Nat) (a k : List Nat) : Nat → List Nat → Nat → List Nat
  | 0, _, _ => []
  | g + 1, l, s => match left m a k s with
    | [] => []
    | t :: _ => if l.contains t then [t] else t :: onL m a k g (t :: l) t
theorem on_onL {m : Nat} {a k : List Nat} (f : Fit m a k) : ∀ (g : Nat) (l : List Nat) (s : Nat), s ≠ 0 → s < 2 ^ a.length → on ⟨a, m, two k⟩ g l s = onL m a k g l s
  | 0, _, _, _, _ => rfl
  | g + 1, l, s, h0, h1 => by
    unfold on onL
    rw [leave_left f h0 h1]
    cases e : left m a k s with
    | nil => rfl
    | cons t r =>
      obtain ⟨t0, t1, _⟩ := govs_mem (left_sub (m := m) (s := s) (t := t) (by rw [e]; exact List.mem_cons_self))
      show (if l.contains t = true then [t] else t :: on ⟨a, m, two k⟩ g (t :: l) t) = (if l.contains t = true then [t] else t :: onL m a k g (t :: l) t)
      rw [on_onL f g (t :: l) t t0 t1]
theorem few : ∀ (n : Nat) (l : List Nat), l.Nodup → (∀ x ∈ l, x < n) → l.length ≤ n
  | 0, l, _, h => by
    cases l with
    | nil => exact Nat.le_refl _
    | cons x r => exact absurd (h x List.mem_cons_self) (Nat.not_lt_zero _)
  | n + 1, l, hn, h => by
    have h2 := few n (l.erase n) (hn.erase n) fun x hx => by
      have q := (List.Nodup.mem_erase_iff hn).mp hx
      have := h x q.2
      omega
    rw [List.length_erase] at h2
    split at h2 <;> omega
def bestL (m : Nat) (a k : List Nat) (i : Nat) : Option Nat := match (govs a k).filter fun s => s.testBit i with
  | [] => none
  | x :: l => some (l.foldl (fun b s => if (offsOf m a b).getD i 0 < (offsOf m a s).getD i 0 then s else b) x)
theorem fold_or {p : Nat → Nat → Prop} [∀ b s, Decidable (p b s)] : ∀ (l : List Nat) (x : Nat), l.foldl (fun b s => if p b s then s else b) x ∈ x :: l
  | [], x => List.mem_cons_self
  | y :: r, x => by
    show r.foldl (fun b s => if p b s then s else b) (if p x y then y else x) ∈ x :: y :: r
    have h := fold_or (p := p) r (if p x y then y else x)
    rw [List.mem_cons] at h
    rcases h with h | h
    · rw [h]
      split
      · exact List.mem_cons_of_mem _ List.mem_cons_self
      · exact List.mem_cons_self
    · exact List.mem_cons_of_mem _ (List.mem_cons_of_mem _ h)
theorem best_bestL {m : Nat} {a k : List Nat} (f : Fit m a k) {i : Nat} (hi : i < a.length) : best ⟨a, m, two k⟩ i = bestL m a k i := by
  have hi6 : i < 6 := Nat.lt_of_lt_of_le hi f.a2
  unfold best bestL
  rw [mays_govs f]
  show (match (govs a k).filter fun s => s.testBit i with
    | [] => none
    | a_1 :: l => some (l.foldl (fun b s => if gets ⟨a, m, two k⟩ b i < gets ⟨a, m, two k⟩ s i then s else b) a_1)) = _
  have hin : ∀ t ∈ (govs a k).filter fun s => s.testBit i, t ∈ govs a k := fun t ht => (List.mem_filter.mp ht).1
  cases e : (govs a k).filter fun s => s.testBit i with
  | nil => rfl
  | cons x l =>
    rw [e] at hin
    refine congrArg some ?_
    refine foldl_same (fun t => t ∈ govs a k) (fun b s hb hs => ?_) l x (hin x List.mem_cons_self) fun y hy => hin y (List.mem_cons_of_mem _ hy)
    obtain ⟨b0, b1, _⟩ := govs_mem hb
    obtain ⟨s0, s1, _⟩ := govs_mem hs
    have e1 := offs_get (m := m) (ks := two k) f.a2 b0 b1 hi6
    have e2 := offs_get (m := m) (ks := two k) f.a2 s0 s1 hi6
    rw [← e1, ← e2]
    refine ⟨rfl, ?_⟩
    split
    · exact hs
    · exact hb
theorem bestL_mem {m : Nat} {a k : List Nat} {i s : Nat} (h : bestL m a k i = some s) : s ∈ govs a k ∧ s.testBit i = true := by
  unfold bestL at h
  cases e : (govs a k).filter fun s => s.testBit i with
  | nil =>
    rw [e] at h
    cases h
  | cons x l =>
    rw [e] at h
    have := fold_or (p := fun b s => (offsOf m a b).getD i 0 < (offsOf m a s).getD i 0) l x
    rw [Option.some.inj h, ← e, List.mem_filter] at this
    exact this
/-! The whole answers -/
def rowsZ (l : List Nat) : List Int := (l.length : Int) :: zs l
def leaveZ (m s : Nat) (a k : List Nat) : List Int := if okAll m a k = true then (if s = 0 ∨ 2 ^ a.length ≤ s then [-2] else rowsZ (left m a k s)) else [-22]
def stableZ (m : Nat) (a k : List Nat) : List Int := if okAll m a k = true then rowsZ (stab m a k) else [-22]
def onZ (m s : Nat) (a k : List Nat) : List Int := if okAll m a k = true then (if s = 0 ∨ 2 ^ a.length ≤ s then [-2] else rowsZ (onL m a k 64 [s] s)) else [-22]
def bestZ (m i : Nat) (a k : List Nat) : List Int := if okAll m a k = true then (if a.length ≤ i then [-2] else match bestL m a k i with
  | none => [-33]
  | some s => [(((offsOf m a s).getD i 0 : Nat) : Int), ((s : Nat) : Int)]) else [-22]
theorem leave_is (m s : Nat) (a k : List Nat) : outZ (answer (.leave m s a k)) = leaveZ m s a k := by
  show outZ (given m a k _) = _
  rw [given_ok]
  unfold leaveZ
  by_cases c : okAll m a k = true
  · rw [if_pos c, if_pos c]
    have f := fit_of c
    show outZ (if s = 0 ∨ 2 ^ a.length ≤ s then no (-2) else rows (leave ⟨a, m, two k⟩ s)) = _
    by_cases q : s = 0 ∨ 2 ^ a.length ≤ s
    · rw [if_pos q, if_pos q]
      rfl
    · rw [if_neg q, if_neg q, leave_left f (by omega) (by omega)]
      rfl
  · rw [if_neg c, if_neg c]
    rfl
theorem stable_is (m : Nat) (a k : List Nat) : outZ (answer (.stable m a k)) = stableZ m a k := by
  show outZ (given m a k _) = _
  rw [given_ok]
  unfold stableZ
  by_cases c : okAll m a k = true
  · rw [if_pos c, if_pos c]
    have f := fit_of c
    show outZ (rows (stable ⟨a, m, two k⟩)) = _
    rw [stable_stab f]
    rfl
  · rw [if_neg c, if_neg c]
    rfl
theorem on_is (m s : Nat) (a k : List Nat) : outZ (answer (.on m s a k)) = onZ m s a k := by
  show outZ (given m a k _) = _
  rw [given_ok]
  unfold onZ
  by_cases c : okAll m a k = true
  · rw [if_pos c, if_pos c]
    have f := fit_of c
    show outZ (if s = 0 ∨ 2 ^ a.length ≤ s then no (-2) else rows (on ⟨a, m, two k⟩ 64 [s] s)) = _
    by_cases q : s = 0 ∨ 2 ^ a.length ≤ s
    · rw [if_pos q, if_pos q]
      rfl
    · rw [if_neg q, if_neg q, on_onL f 64 [s] s (by omega) (by omega)]
      rfl
  · rw [if_neg c, if_neg c]
    rfl
theorem best_is (m i : Nat) (a k : List Nat) : outZ (answer (.best m i a k)) = bestZ m i a k := by
  show outZ (given m a k _) = _
  rw [given_ok]
  unfold bestZ
  by_cases c : okAll m a k = true
  · rw [if_pos c, if_pos c]
    have f := fit_of c
    show outZ (if a.length ≤ i then no (-2) else match best ⟨a, m, two k⟩ i with
      | none => no (-33)
      | some s => { ret := gets ⟨a, m, two k⟩ s i, out := [s] }) = _
    by_cases q : a.length ≤ i
    · rw [if_pos q, if_pos q]
      rfl
    · rw [if_neg q, if_neg q, best_bestL f (by omega)]
      cases e : bestL m a k i with
      | none => rfl
      | some s =>
        obtain ⟨hs, _⟩ := bestL_mem e
        obtain ⟨s0, s1, _⟩ := govs_mem hs
        have e1 := offs_get (m := m) (ks := two k) f.a2 s0 s1 (i := i) (by have := f.a2; omega)
        show [((gets ⟨a, m, two k⟩ s i : Nat) : Int), ((s : Nat) : Int)] = _
        rw [← e1]
  · rw [if_neg c, if_neg c]
    rfl
end Lv
namespace Lv
open Ks468
/-! The way on, turn by turn -/
theorem onL_nil {m : Nat} {a k l : List Nat} {g c : Nat} (h : left m a k c = []) : onL m a k (g + 1) l c = [] := by
  unfold onL
  rw [h]
theorem onL_cons {m : Nat} {a k l r : List Nat} {g c t : Nat} (h : left m a k c = t :: r) : onL m a k (g + 1) l c = if l.contains t = true then [t] else t :: onL m a k g (t :: l) t := by
  rw [onL, h]
theorem onL_len (m : Nat) (a k : List Nat) : ∀ (g : Nat) (l : List Nat) (c : Nat), (onL m a k g l c).length ≤ g
  | 0, _, _ => Nat.le_refl _
  | g + 1, l, c => by
    cases e : left m a k c with
    | nil =>
      rw [onL_nil e]
      exact Nat.zero_le _
    | cons t r =>
      rw [onL_cons e]
      split
      · exact Nat.succ_le_succ (Nat.zero_le _)
      · exact Nat.succ_le_succ (onL_len m a k g (t :: l) t)
structure Way (m : Nat) (a k : List Nat) (s g : Nat) (T : List Nat) (c : Nat) : Prop where
  ne : T ≠ []
  nd : T.Nodup
  lt : ∀ x ∈ T, x < 2 ^ a.length
  sz : g + T.length = 65
  c0 : c ≠ 0
  c1 : c < 2 ^ a.length
  is : T.drop 1 ++ onL m a k g T.reverse c = onL m a k 64 [s] s
theorem way_start {m : Nat} {a k : List Nat} {s : Nat} (h0 : s ≠ 0) (h1 : s < 2 ^ a.length) : Way m a k s 64 [s] s :=
  ⟨by simp, by simp, fun x hx => by rw [List.mem_singleton] at hx; rw [hx]; exact h1, rfl, h0, h1, rfl⟩
theorem way_len {m : Nat} {a k : List Nat} {s g : Nat} {T : List Nat} {c : Nat} (hn : a.length ≤ 6) (W : Way m a k s g T c) : T.length ≤ 64 ∧ ∃ n, g = n + 1 := by
  have h6 : 2 ^ a.length ≤ 64 := Nat.pow_le_pow_right (n := 2) (by decide) hn
  have h := few 64 T W.nd fun x hx => Nat.lt_of_lt_of_le (W.lt x hx) h6
  refine ⟨h, g - 1, ?_⟩
  have := W.sz
  omega
theorem way_none {m : Nat} {a k : List Nat} {s g : Nat} {T : List Nat} {c : Nat} (hn : a.length ≤ 6) (W : Way m a k s g T c) (h : left m a k c = []) : T.drop 1 = onL m a k 64 [s] s := by
  obtain ⟨_, n, rfl⟩ := way_len hn W
  have e := W.is
  rw [onL_nil h, List.append_nil] at e
  exact e
theorem way_round {m : Nat} {a k : List Nat} {s g : Nat} {T r : List Nat} {c t : Nat} (hn : a.length ≤ 6) (W : Way m a k s g T c) (h : left m a k c = t :: r) (ht : T.contains t = true) : T.drop 1 ++ [t] = onL m a k 64 [s] s := by
  obtain ⟨_, n, rfl⟩ := way_len hn W
  have e := W.is
  have hr : T.reverse.contains t = true := by
    rw [List.contains_iff_mem, List.mem_reverse]
    exact List.contains_iff_mem.mp ht
  rw [onL_cons h, if_pos hr] at e
  exact e
theorem way_next {m : Nat} {a k : List Nat} {s n : Nat} {T r : List Nat} {c t : Nat} (W : Way m a k s (n + 1) T c) (h : left m a k c = t :: r) (ht : T.contains t = false) : Way m a k s n (T ++ [t]) t := by
  have hm : t ∉ T := fun c => by
    rw [← List.contains_iff_mem, ht] at c
    cases c
  obtain ⟨t0, t1, _⟩ := govs_mem (left_sub (m := m) (s := c) (t := t) (by rw [h]; exact List.mem_cons_self))
  have hr : ¬ T.reverse.contains t = true := fun c => by
    rw [List.contains_iff_mem, List.mem_reverse] at c
    exact hm c
  have e := W.is
  rw [onL_cons h, if_neg hr] at e
  refine ⟨by simp, ?_, ?_, ?_, t0, t1, ?_⟩
  · rw [List.nodup_append]
    refine ⟨W.nd, by simp, fun x hx y hy => ?_⟩
    rw [List.mem_singleton] at hy
    subst hy
    exact fun e => hm (e ▸ hx)
  · intro x hx
    rw [List.mem_append, List.mem_singleton] at hx
    rcases hx with hx | hx
    · exact W.lt x hx
    · rw [hx]
      exact t1
  · have := W.sz
    rw [List.length_append]
    show n + (T.length + 1) = 65
    omega
  · rw [← e, List.reverse_append]
    obtain ⟨x, u, hx⟩ : ∃ x u, T = x :: u := by
      cases hT : T with
      | nil => exact absurd hT W.ne
      | cons x u => exact ⟨x, u, rfl⟩
    subst hx
    show (u ++ [t]) ++ onL m a k n (t :: (x :: u).reverse) t = u ++ t :: onL m a k n (t :: (x :: u).reverse) t
    rw [List.append_assoc]
    rfl
/-! The best set -/
def bst (m : Nat) (a : List Nat) (i b s : Nat) : Nat := if (offsOf m a b).getD i 0 < (offsOf m a s).getD i 0 then s else b
def bstOf (m : Nat) (a : List Nat) (i : Nat) (l : List Nat) : Nat := l.foldl (bst m a i) (l.headD 0)
def withI (a k : List Nat) (i : Nat) : List Nat := (govs a k).filter fun s => s.testBit i
theorem bst_mem (m : Nat) (a : List Nat) (i : Nat) (l : List Nat) (x : Nat) : l.foldl (bst m a i) x ∈ x :: l := fold_or (p := fun b s => (offsOf m a b).getD i 0 < (offsOf m a s).getD i 0) l x
theorem bstOf_mem {m : Nat} {a : List Nat} {i : Nat} {l : List Nat} (h : l ≠ []) : bstOf m a i l ∈ l := by
  cases l with
  | nil => exact absurd rfl h
  | cons x r =>
    have := bst_mem m a i (x :: r) x
    rw [List.mem_cons] at this
    rcases this with q | q
    · show (x :: r).foldl (bst m a i) x ∈ x :: r
      rw [q]
      exact List.mem_cons_self
    · exact q
theorem bestL_is (m : Nat) (a k : List Nat) (i : Nat) : bestL m a k i = if (withI a k i).isEmpty = true then none else some (bstOf m a i (withI a k i)) := by
  unfold bestL withI
  cases e : (govs a k).filter fun s => s.testBit i with
  | nil => rfl
  | cons x l =>
    show some (l.foldl (bst m a i) x) = some (l.foldl (bst m a i) (bst m a i x x))
    have e2 : bst m a i x x = x := by
      unfold bst
      split <;> rfl
    rw [e2]
end Lv
namespace Lv
open PySem PySem.Spec PyProof.Rows L2
/-! ### Lists of numbers in the heap -/
def NL (a : List Nat) : List V := a.map fun n : Nat => V.int (n : Int)
theorem NL_zs (a : List Nat) : NL a = (zs a).map V.int := by
  unfold NL zs
  rw [List.map_map]
  rfl
theorem NL_len (a : List Nat) : (NL a).length = a.length := by
  unfold NL
  exact List.length_map _
theorem NL_get {a : List Nat} {i : Nat} (h : i < a.length) : (NL a)[i]? = some (.int ((a.getD i 0 : Nat) : Int)) := by
  unfold NL
  rw [List.getElem?_map, List.getD_eq_getElem?_getD, List.getElem?_eq_getElem h]
  rfl
theorem NL_at {a : List Nat} {i : Nat} (h : i < a.length) : atI (NL a) ((i : Nat) : Int) = some (.int ((a.getD i 0 : Nat) : Int)) := atI_nat (NL_get h)
theorem NL_ats {a : List Nat} {i : Nat} {z : Int} (e : z = (i : Int)) (h : i < a.length) : atI (NL a) z = some (.int ((a.getD i 0 : Nat) : Int)) := by
  rw [e]
  exact NL_at h
theorem NL_set {a : List Nat} {i n : Nat} : (NL a).set i (.int (n : Int)) = NL (a.set i n) := by
  unfold NL
  rw [List.map_set]
theorem NL_app (a b : List Nat) : NL (a ++ b) = NL a ++ NL b := by
  unfold NL
  exact List.map_append
theorem NL_item {a : List Nat} {i : Nat} {y : V} (h : (NL a)[i]? = some y) : ∃ n, a[i]? = some n ∧ y = .int ((n : Nat) : Int) := by
  unfold NL at h
  rw [List.getElem?_map] at h
  cases e : a[i]? with
  | none =>
    rw [e] at h
    cases h
  | some z =>
    rw [e] at h
    exact ⟨z, rfl, (Option.some.inj h).symm⟩
theorem zs_sum (a : List Nat) : (zs a).sum = ((a.sum : Nat) : Int) := by
  unfold zs
  induction a with
  | nil => rfl
  | cons x r ih =>
    rw [List.map_cons, List.sum_cons, List.sum_cons, ih]
    show (x : Int) + _ = _
    omega
theorem ixN_nat {n i : Nat} (h : i < n) : ixN n (i : Int) = some i := by
  unfold ixN
  rw [if_pos (by omega), if_pos (by omega)]
  rfl
theorem same_upd {H : Hp} {p : Addr} {o : HO} (h : H p = none) : Same H (upd H p o) := fun b x e => by
  rw [upd_ne (ne_of_none e h)]
  exact e
/-! ### Tests -/
theorem iff_true {c : Bool} {A B : Prop} (hc : c = true) (h : A) : if c = true then A else B := by
  rw [if_pos hc]
  exact h
theorem iff_false {c : Bool} {A B : Prop} (hc : c = false) (h : B) : if c = true then A else B := by
  rw [hc, if_neg Bool.false_ne_true]
  exact h
theorem deq {p q : Prop} [Decidable p] [Decidable q] (h : p ↔ q) : decide p = decide q := decide_eq_decide.mpr h
theorem int_eq {i j : Int} : (V.int i = V.int j) ↔ i = j := ⟨fun h => V.int.inj h, fun h => congrArg V.int h⟩
theorem take_more {α : Type} : ∀ {l : List α} {i : Nat} {x : α}, l[i]? = some x → l.take (i + 1) = l.take i ++ [x]
  | [], i, x, h => by simp at h
  | a :: l, 0, x, h => by
    have e : a = x := Option.some.inj h
    subst e
    rfl
  | a :: l, i + 1, x, h => by
    have ih := take_more (l := l) (i := i) (x := x) h
    show a :: l.take (i + 1) = a :: l.take i ++ [x]
    rw [ih]
    rfl
theorem mem_of_get {α : Type} {l : List α} {i : Nat} {x : α} (h : l[i]? = some x) : x ∈ l := List.mem_of_getElem? h
theorem rg_two : ∀ n : Fin 41, n.val % 2 = 0 → Builtin.Range.small 0 (n.val : Int) 2 = true ∧ Builtin.Range.rangeSize 0 (n.val : Int) 2 = ((n.val / 2 : Nat) : Int) := by decide +kernel
theorem rgc_two {n : Nat} (h : n % 2 = 0) (h2 : n ≤ 40) : RgC 0 (n : Int) 2 (n / 2) := by
  have q := rg_two ⟨n, by omega⟩ h
  exact ⟨by decide, by decide, q.1, q.2⟩
theorem bit_is (s i : Nat) : decide (V.int (Builtin.bitAnd ((s : Int) / 2 ^ ((i : Int)).toNat) 1) = V.int 1) = s.testBit i := by
  have e : Builtin.bitAnd ((s : Int) / 2 ^ ((i : Int)).toNat) 1 = ((s / 2 ^ i % 2 : Nat) : Int) := by
    have e1 : ((s : Int) / 2 ^ ((i : Int)).toNat) = ((s / 2 ^ i : Nat) : Int) := by
      rw [Int.toNat_natCast, Int.natCast_ediv, Int.natCast_pow]
      rfl
    rw [e1, bitAnd_pp (Int.natCast_nonneg _) (by decide), Int.toNat_natCast]
    show (((s / 2 ^ i) &&& 1 : Nat) : Int) = _
    rw [Nat.and_one_is_mod]
  rw [e, deq int_eq]
  rw [Nat.testBit_eq_decide_div_mod_eq]
  exact deq (by omega)
theorem pe_num {X : Cx} {x : Str} {n : Int} {t : _} {pos : Pos} (hg : Gl X x) (hm : X.mg x = some (.int n t)) (hd : (x == ("__debug__" : Str)) = false := by decide) : PE X (.Name x pos) (tC (.int n)) := pe_glob hg hm ⟨t, rfl⟩ hd
theorem pow_cast (n : Nat) : (2 : Int) ^ n = ((2 ^ n : Nat) : Int) := by
  rw [Int.natCast_pow]
  rfl
/-! ### A def that stands, with its promise -/
structure Has (P : Program) (w : World) (K : PySem.W.Frag) (mg : Str → Option Value) (base : Heap) (x : Str) (k : Nat) (ps : List Str) (sp : Sp) : Prop where
  ex : ∃ (f : Addr) (fd : FuncData), mg x = some (.ref f) ∧ PySem.W.keepIn K (.ref f) = true ∧ Binds K fd ps [] ∧ FnOk P w K mg base CX0 k f fd ps sp
theorem pe_has {X : Cx} {k : Nat} {ps : List Str} {sp : Sp} {x : Str} {p pos : Pos} {e : Expr} {es : List Expr} {t : TA} (h : Has X.prog X.w X.K X.mg X.base x k ps sp) (hr : Room k X.A) (hg : Gl X x) (ha : PA X (e :: es) t)
    (hdb : (x == ("__debug__" : Str)) = false := by decide) (he : starEach (e :: es) X.env = (false, eval e X.env) :: starEach es X.env := by rfl) (hpl : (backTo pos (starEach es X.env)).any (·.1) = false := by rfl) :
    PE X (.Call (.Name x p) (e :: es) [] pos) (tCall sp [] E0 t) := by
  obtain ⟨f, fd, hm, hk, hb, F⟩ := h.ex
  exact pe_call F hr hg hm hk hb .nil pass0 ha hdb he hpl
end Lv
namespace Lv
open PySem PySem.Spec PyProof.Rows L2
def top (i : Nat) : Stmt := PySem.Challenge.pw_leavefor_s05_on.main.body.getD i (.Pass ⟨0, 0, 0, 0⟩)
abbrev s_offices_fit : Stmt := top 7
abbrev s_seats_fit : Stmt := top 8
abbrev s_hates_fit : Stmt := top 9
abbrev s_house_fits : Stmt := top 10
abbrev s_set_fits : Stmt := top 11
abbrev s_is_in : Stmt := top 12
abbrev s_members_of : Stmt := top 13
abbrev s_has_most_seats : Stmt := top 14
abbrev s_has_hate_within : Stmt := top 15
abbrev s_may_govern : Stmt := top 16
abbrev s_whose_turn : Stmt := top 17
abbrev s_offices_in : Stmt := top 18
abbrev s_governing_sets : Stmt := top 19
abbrev s_all_have_more : Stmt := top 20
abbrev s_is_left_for : Stmt := top 21
abbrev s_sets_left_for : Stmt := top 22
abbrev s_way_on : Stmt := top 23
abbrev s_on : Stmt := top 24
section
variable {P : Program} {w : World} {K : PySem.W.Frag} {mg : Str → Option Value} {base : Heap}
/-! offices_fit -/
theorem sc_offices_fit : FnScope ["m"] ["m"] (defScope s_offices_fit) := ⟨rfl, rfl, rfl, by decide +kernel, rfl, by decide +kernel, by decide +kernel⟩
def sp_offices_fit : Sp := fun vs H Q _ => ∃ m : Nat, vs = [.int (m : Int)] ∧ Q (.bl (okM m)) H
theorem ok_offices_fit {f : Addr} {fd : FuncData} (F : Fun K "offices_fit" "offices_fit" s_offices_fit f fd) {t1 : _} (g1 : mg "MOST_OFFICES" = some (.int 10 t1)) : FnOk P w K mg base CX0 1 f fd ["m"] sp_offices_fit := by
  refine F.ok sc_offices_fit (fun vs H Q E h => ?_) (fun cdv A outer s H vs Q E hr h => ?_)
  · obtain ⟨m, rfl, _⟩ := h
    rfl
  · obtain ⟨m, rfl, q⟩ := h
    refine ⟨_, pss_one (ps_ret (pe_and (pe_cmpR op_ge (pv 0) pe_int (nomark _)) (pe_one (pe_cmpR op_le (pv 0) (pe_num rfl g1) (nomark _))))), ?_⟩
    refine ⟨_, rfl, _, _, rfl, rfl, _, rfl, ?_⟩
    unfold okM at q
    by_cases c : 1 ≤ m
    · refine iff_true (decide_eq_true (by omega)) ?_
      refine ⟨_, rfl, _, _, rfl, rfl, ?_⟩
      rw [decide_eq_true c, Bool.true_and] at q
      have e : decide (m ≤ 10) = decide ((m : Int) ≤ 10) := deq (by omega)
      rw [e] at q
      exact q
    · refine iff_false (decide_eq_false (by omega)) ?_
      rw [decide_eq_false c, Bool.false_and] at q
      exact q
/-! seats_fit -/
theorem sc_seats_fit : FnScope ["seats", "number"] ["seats"] (defScope s_seats_fit) := ⟨rfl, rfl, rfl, by decide +kernel, rfl, by decide +kernel, by decide +kernel⟩
def sp_seats_fit (K : PySem.W.Frag) : Sp := fun vs H Q _ => ∃ (p : Addr) (a : List Nat), vs = [.ref p] ∧ SqL K H p (NL a) ∧ Q (.bl (okS a)) H
theorem ok_seats_fit {f : Addr} {fd : FuncData} (F : Fun K "seats_fit" "seats_fit" s_seats_fit f fd) {t1 t2 : _} (g1 : mg "MOST_PARTIES" = some (.int 6 t1)) (g2 : mg "MOST_SEATS" = some (.int 200 t2)) (ml : mg "len" = none) : FnOk P w K mg base CX0 1 f fd ["seats"] (sp_seats_fit K) := by
  refine F.ok sc_seats_fit (fun vs H Q E h => ?_) (fun cdv A outer s H vs Q E hr h => ?_)
  · obtain ⟨p, a, rfl, _⟩ := h
    rfl
  · obtain ⟨p, a, rfl, hS, q⟩ := h
    refine ⟨_, pss_cons (ps_if (PW.pt (pw_or (pt_cmpR op_lt (pe_callB call_len_seq (by rfl) ml PySem.boot_len (pa_cons (pv 0) pa_nil)) pe_int (nomark _)) (pw_or1 (pt_cmpR op_gt (pe_callB call_len_seq (by rfl) ml PySem.boot_len (pa_cons (pv 0) pa_nil)) (pe_num rfl g1) (nomark _))))) (pss_one (ps_ret pe_bl)) pss_nil)
      (pss_cons (ps_for PassesOwn.never rfl (pi_list (pv 0)) (pg_name (i := 1) sc_seats_fit.nd rfl (.inl rfl)) (pss_one (ps_if (PW.pt (pw_or (pt_cmpR op_lt (pv 1) pe_int (nomark _)) (pw_or1 (pt_cmpR op_gt (pv 1) (pe_num rfl g2) (nomark _))))) (pss_one (ps_ret pe_bl)) pss_nil)))
      (pss_one (ps_ret pe_bl))), ?_⟩
    have hL := NL_len a
    unfold okS at q
    refine ⟨_, rfl, p, _, rfl, .inl hS, _, _, rfl, rfl, _, rfl, ?_⟩
    by_cases c1 : a.length < 1
    · refine iff_true (decide_eq_true (by rw [hL]; omega)) (iteT ?_)
      rw [decide_eq_false (by omega : ¬ 1 ≤ a.length), Bool.false_and, Bool.false_and] at q
      exact q
    · refine iff_false (decide_eq_false (by rw [hL]; omega)) ?_
      rw [decide_eq_true (by omega : 1 ≤ a.length), Bool.true_and] at q
      refine ⟨_, rfl, p, _, rfl, .inl hS, _, _, rfl, rfl, _, rfl, ?_⟩
      by_cases c2 : 6 < a.length
      · refine iff_true (decide_eq_true (by rw [hL]; omega)) ?_
        rw [decide_eq_false (by omega : ¬ a.length ≤ 6), Bool.false_and] at q
        exact q
      · refine iff_false (decide_eq_false (by rw [hL]; omega)) ?_
        rw [decide_eq_true (by omega : a.length ≤ 6), Bool.true_and] at q
        refine ⟨_, rfl, p, rfl, ⟨_, hS⟩, for_list (K := K) (a := p) (xs := NL a) (fun i σ H' => H' = H ∧ (∃ v : Option V, σ = [some (.ref p), v]) ∧ ((a.take i).all fun s => decide (1 ≤ s) && decide (s ≤ 200)) = true) ⟨rfl, ⟨none, rfl⟩, rfl⟩ (fun i σ H' _ hP => by rw [hP.1]; exact hS) ?_ ?_⟩
        · rintro i y σ H' hi ⟨rfl, ⟨v, rfl⟩, ha⟩
          obtain ⟨z, hz, rfl⟩ := NL_item hi
          refine ⟨_, rfl, _, _, rfl, rfl, _, rfl, ?_⟩
          have hno : ∀ (hc : ¬ (1 ≤ z ∧ z ≤ 200)), (a.all fun s => decide (1 ≤ s) && decide (s ≤ 200)) = false := fun hc => by
            rw [Bool.eq_false_iff]
            intro e
            rw [List.all_eq_true] at e
            have := e z (mem_of_get hz)
            rw [Bool.and_eq_true, decide_eq_true_eq, decide_eq_true_eq] at this
            exact hc this
          by_cases d1 : z < 1
          · refine iff_true (decide_eq_true (by omega)) (iteT ?_)
            rw [hno (by omega)] at q
            exact q
          · refine iff_false (decide_eq_false (by omega)) ?_
            refine ⟨_, rfl, _, _, rfl, rfl, _, rfl, ?_⟩
            by_cases d2 : 200 < z
            · refine iff_true (decide_eq_true (by omega)) ?_
              rw [hno (by omega)] at q
              exact q
            · refine iff_false (decide_eq_false (by omega)) ?_
              refine ⟨rfl, ⟨_, rfl⟩, ?_⟩
              rw [take_more hz, List.all_append, ha]
              simp only [List.all_cons, List.all_nil, Bool.true_and, Bool.and_true, Bool.and_eq_true, decide_eq_true_eq]
              omega
        · rintro σ H' ⟨rfl, ⟨v, rfl⟩, ha⟩
          rw [NL_len, List.take_length] at ha
          rw [ha] at q
          exact q
/-! hates_fit -/
theorem sc_hates_fit : FnScope ["parties", "hates", "k"] ["parties", "hates"] (defScope s_hates_fit) := ⟨rfl, rfl, rfl, by decide +kernel, rfl, by decide +kernel, by decide +kernel⟩
def sp_hates_fit (K : PySem.W.Frag) : Sp := fun vs H Q _ => ∃ (n : Nat) (p : Addr) (k : List Nat), vs = [.int (n : Int), .ref p] ∧ SqL K H p (NL k) ∧ Q (.bl (okK n k)) H
theorem ok_hates_fit {f : Addr} {fd : FuncData} (F : Fun K "hates_fit" "hates_fit" s_hates_fit f fd) {t1 : _} (g1 : mg "MOST_HATE_NUMBERS" = some (.int 40 t1)) (ml : mg "len" = none) (mr : mg "range" = none) : FnOk P w K mg base CX0 1 f fd ["parties", "hates"] (sp_hates_fit K) := by
  refine F.ok sc_hates_fit (fun vs H Q E h => ?_) (fun cdv A outer s H vs Q E hr h => ?_)
  · obtain ⟨n, p, k, rfl, _⟩ := h
    rfl
  · obtain ⟨n, p, k, rfl, hS, q⟩ := h
    refine ⟨_, pss_cons (ps_if (PW.pt (pw_or (pt_cmpR op_ne (pe_op op_mod (pe_callB call_len_seq (by rfl) ml PySem.boot_len (pa_cons (pv 1) pa_nil)) pe_int) pe_int (nomark _)) (pw_or1 (pt_cmpR op_gt (pe_callB call_len_seq (by rfl) ml PySem.boot_len (pa_cons (pv 1) pa_nil)) (pe_num rfl g1) (nomark _))))) (pss_one (ps_ret pe_bl)) pss_nil)
      (pss_cons (ps_for PassesOwn.never rfl (pi_range3 rfl mr (pa_cons pe_int (pa_cons (pe_callB call_len_seq (by rfl) ml PySem.boot_len (pa_cons (pv 1) pa_nil)) (pa_cons pe_int pa_nil)))) (pg_name (i := 2) sc_hates_fit.nd rfl (.inl rfl))
        (pss_cons (ps_if (pt_cmpR op_eq (pe_ix ix_list (pv 1) (pv 2) (fun _ _ => rfl)) (pe_ix ix_list (pv 1) (pe_op op_add (pv 2) pe_int) (fun _ _ => rfl)) (nomark _)) (pss_one (ps_ret pe_bl)) pss_nil)
        (pss_one (ps_if (PW.pt (pw_or (pt_cmpR op_ge (pe_ix ix_list (pv 1) (pv 2) (fun _ _ => rfl)) (pv 0) (nomark _)) (pw_or1 (pt_cmpR op_ge (pe_ix ix_list (pv 1) (pe_op op_add (pv 2) pe_int) (fun _ _ => rfl)) (pv 0) (nomark _))))) (pss_one (ps_ret pe_bl)) pss_nil))))
      (pss_one (ps_ret pe_bl))), ?_⟩
    have hL := NL_len k
    unfold okK at q
    refine ⟨_, rfl, p, _, rfl, .inl hS, _, _, rfl, rfl, (by show (0 : Int) < 2; decide), rfl, _, rfl, ?_⟩
    by_cases c1 : k.length % 2 = 0
    · refine iff_false (c := !decide (V.int (((NL k).length : Int) % 2) = V.int 0)) (by rw [deq int_eq, hL, decide_eq_true (by omega)]; rfl) ?_
      rw [decide_eq_true c1, Bool.true_and] at q
      refine ⟨_, rfl, p, _, rfl, .inl hS, _, _, rfl, rfl, _, rfl, ?_⟩
      by_cases c2 : 40 < k.length
      · refine iff_true (decide_eq_true (by rw [hL]; omega)) ?_
        rw [decide_eq_false (by omega : ¬ k.length ≤ 40), Bool.false_and] at q
        exact q
      · refine iff_false (decide_eq_false (by rw [hL]; omega)) ?_
        rw [decide_eq_true (by omega : k.length ≤ 40), Bool.true_and] at q
        refine ⟨_, rfl, p, _, rfl, .inl hS, 0, _, 2, k.length / 2, rfl, (by rw [hL]; exact rgc_two c1 (by omega)), for_rangeC (lo := 0) (c := 2) (n := k.length / 2) (fun i σ H' => H' = H ∧ (∃ v : Option V, σ = [some (.int (n : Int)), some (.ref p), v]) ∧ ((Ks468.two k).take i).all (okT n) = true) ⟨rfl, ⟨none, rfl⟩, rfl⟩ ?_ ?_⟩
        · rintro i σ H' hi ⟨rfl, ⟨v, rfl⟩, ha⟩
          have h1 : 2 * i + 1 < k.length := by omega
          have hz := two_get k i h1
          have a1 : ∀ z : Int, z = 0 + (i : Int) * 2 → atI (NL k) z = some (.int ((k.getD (2 * i) 0 : Nat) : Int)) := fun z e => NL_ats (i := 2 * i) (by omega) (by omega)
          have a2 : ∀ z : Int, z = 0 + (i : Int) * 2 + 1 → atI (NL k) z = some (.int ((k.getD (2 * i + 1) 0 : Nat) : Int)) := fun z e => NL_ats (i := 2 * i + 1) (by omega) (by omega)
          have hno : okT n (k.getD (2 * i) 0, k.getD (2 * i + 1) 0) = false → (Ks468.two k).all (okT n) = false := fun hc => by
            rw [Bool.eq_false_iff]
            intro e
            rw [List.all_eq_true] at e
            have := e _ (mem_of_get hz)
            rw [hc] at this
            cases this
          have hyes : okT n (k.getD (2 * i) 0, k.getD (2 * i + 1) 0) = true → ((Ks468.two k).take (i + 1)).all (okT n) = true := fun hc => by
            rw [take_more hz, List.all_append, ha, List.all_cons, hc]
            rfl
          generalize k.getD (2 * i) 0 = x at *
          generalize k.getD (2 * i + 1) 0 = y at *
          refine ⟨_, rfl, _, rfl, p, _, _, _, rfl, rfl, hS, a1 _ rfl, _, rfl, _, rfl, _, _, rfl, rfl, p, _, _, _, rfl, rfl, hS, a2 _ rfl, rfl, _, rfl, ?_⟩
          by_cases d1 : x = y
          · refine iff_true (decide_eq_true (by rw [int_eq]; omega)) ?_
            have e : (decide (x < n) && decide (y < n) && x != y) = false := by
              subst d1
              simp
            rw [hno e] at q
            exact q
          · refine iff_false (decide_eq_false (by rw [int_eq]; omega)) ?_
            refine ⟨_, rfl, _, rfl, p, _, _, _, rfl, rfl, hS, a1 _ rfl, _, rfl, _, _, rfl, rfl, _, rfl, ?_⟩
            by_cases d2 : n ≤ x
            · refine iff_true (decide_eq_true (by omega)) (iteT ?_)
              have e : (decide (x < n) && decide (y < n) && x != y) = false := by
                rw [decide_eq_false (by omega : ¬ x < n)]
                rfl
              rw [hno e] at q
              exact q
            · refine iff_false (decide_eq_false (by omega)) ?_
              refine ⟨_, rfl, _, rfl, _, _, rfl, rfl, p, _, _, _, rfl, rfl, hS, a2 _ rfl, _, rfl, _, _, rfl, rfl, _, rfl, ?_⟩
              by_cases d3 : n ≤ y
              · refine iff_true (decide_eq_true (by omega)) ?_
                have e : (decide (x < n) && decide (y < n) && x != y) = false := by
                  rw [decide_eq_false (by omega : ¬ y < n), Bool.and_false]
                  rfl
                rw [hno e] at q
                exact q
              · refine iff_false (decide_eq_false (by omega)) ?_
                refine ⟨rfl, ⟨_, rfl⟩, hyes ?_⟩
                show (decide (x < n) && decide (y < n) && x != y) = true
                rw [decide_eq_true (by omega : x < n), decide_eq_true (by omega : y < n)]
                simpa using d1
        · rintro σ H' ⟨rfl, ⟨v, rfl⟩, ha⟩
          rw [← two_len, List.take_length] at ha
          rw [ha] at q
          exact q
    · refine iff_true (c := !decide (V.int (((NL k).length : Int) % 2) = V.int 0)) (by rw [deq int_eq, hL, decide_eq_false (by omega)]; rfl) (iteT ?_)
      rw [decide_eq_false c1, Bool.false_and, Bool.false_and] at q
      exact q
/-! house_fits -/
theorem sc_house_fits : FnScope ["m", "seats", "hates"] ["m", "seats", "hates"] (defScope s_house_fits) := ⟨rfl, rfl, rfl, by decide +kernel, rfl, by decide +kernel, by decide +kernel⟩
def sp_house_fits (K : PySem.W.Frag) : Sp := fun vs H Q _ => ∃ (m : Nat) (pa : Addr) (a : List Nat) (pk : Addr) (k : List Nat), vs = [.int (m : Int), .ref pa, .ref pk] ∧ SqL K H pa (NL a) ∧ SqL K H pk (NL k) ∧ Q (.bl (okAll m a k)) H
theorem ok_house_fits {f : Addr} {fd : FuncData} (F : Fun K "house_fits" "house_fits" s_house_fits f fd) (h1 : Has P w K mg base "offices_fit" 1 ["m"] sp_offices_fit) (h2 : Has P w K mg base "seats_fit" 1 ["seats"] (sp_seats_fit K)) (h3 : Has P w K mg base "hates_fit" 1 ["parties", "hates"] (sp_hates_fit K)) (ml : mg "len" = none) : FnOk P w K mg base CX0 2 f fd ["m", "seats", "hates"] (sp_house_fits K) := by
  refine F.ok sc_house_fits (fun vs H Q E h => ?_) (fun cdv A outer s H vs Q E hr h => ?_)
  · obtain ⟨m, pa, a, pk, k, rfl, _⟩ := h
    rfl
  · obtain ⟨m, pa, a, pk, k, rfl, hA, hK, q⟩ := h
    refine ⟨_, pss_one (ps_ret (pe_and (pe_has h1 hr (by rfl) (pa_cons (pv 0) pa_nil)) (pe_and (pe_has h2 hr (by rfl) (pa_cons (pv 1) pa_nil)) (pe_one (pe_has h3 hr (by rfl) (pa_cons (pe_callB call_len_seq (by rfl) ml PySem.boot_len (pa_cons (pv 1) pa_nil)) (pa_cons (pv 2) pa_nil))))))), ?_⟩
    refine ⟨_, rfl, m, rfl, _, rfl, ?_⟩
    unfold okAll at q
    cases c1 : okM m with
    | false =>
      rw [c1, Bool.false_and] at q
      exact iteF q
    | true =>
      rw [c1, Bool.true_and] at q
      refine iteT ⟨_, rfl, pa, a, rfl, hA, _, rfl, ?_⟩
      cases c2 : okS a with
      | false =>
        rw [c2, Bool.false_and] at q
        exact iteF q
      | true =>
        rw [c2, Bool.true_and] at q
        refine iteT ⟨_, rfl, pa, _, rfl, .inl hA, _, rfl, a.length, pk, k, ?_, hK, q⟩
        rw [NL_len]
        rfl
/-! set_fits -/
theorem sc_set_fits : FnScope ["s", "parties"] ["s", "parties"] (defScope s_set_fits) := ⟨rfl, rfl, rfl, by decide +kernel, rfl, by decide +kernel, by decide +kernel⟩
def sp_set_fits : Sp := fun vs H Q _ => ∃ (s n : Nat), vs = [.int (s : Int), .int (n : Int)] ∧ n ≤ 1000 ∧ Q (.bl (decide (1 ≤ s) && decide (s < 2 ^ n))) H
theorem ok_set_fits {f : Addr} {fd : FuncData} (F : Fun K "set_fits" "set_fits" s_set_fits f fd) : FnOk P w K mg base CX0 1 f fd ["s", "parties"] sp_set_fits := by
  refine F.ok sc_set_fits (fun vs H Q E h => ?_) (fun cdv A outer s H vs Q E hr h => ?_)
  · obtain ⟨m, n, rfl, _⟩ := h
    rfl
  · obtain ⟨m, n, rfl, hn, q⟩ := h
    refine ⟨_, pss_one (ps_ret (pe_and (pe_cmpR op_ge (pv 0) pe_int (nomark _)) (pe_one (pe_cmpR op_lt (pv 0) (pe_op op_shl pe_int (pv 1)) (nomark _))))), ?_⟩
    refine ⟨_, rfl, _, _, rfl, rfl, _, rfl, ?_⟩
    by_cases c : 1 ≤ m
    · refine iff_true (decide_eq_true (by omega)) ?_
      refine ⟨_, rfl, _, rfl, _, _, rfl, rfl, ⟨by omega, by omega, by decide⟩, _, _, rfl, rfl, ?_⟩
      rw [decide_eq_true c, Bool.true_and] at q
      have e : decide (m < 2 ^ n) = decide ((m : Int) < 1 * 2 ^ ((n : Int)).toNat) := deq (by
        rw [Int.toNat_natCast, Int.one_mul, pow_cast, Int.ofNat_lt])
      rw [e] at q
      exact q
    · refine iff_false (decide_eq_false (by omega)) ?_
      rw [decide_eq_false c, Bool.false_and] at q
      exact q
/-! is_in -/
theorem sc_is_in : FnScope ["party", "s"] ["party", "s"] (defScope s_is_in) := ⟨rfl, rfl, rfl, by decide +kernel, rfl, by decide +kernel, by decide +kernel⟩
def sp_is_in : Sp := fun vs H Q _ => ∃ (i s : Nat), vs = [.int (i : Int), .int (s : Int)] ∧ Q (.bl (s.testBit i)) H
theorem ok_is_in {f : Addr} {fd : FuncData} (F : Fun K "is_in" "is_in" s_is_in f fd) : FnOk P w K mg base CX0 1 f fd ["party", "s"] sp_is_in := by
  refine F.ok sc_is_in (fun vs H Q E h => ?_) (fun cdv A outer s H vs Q E hr h => ?_)
  · obtain ⟨m, n, rfl, _⟩ := h
    rfl
  · obtain ⟨i, z, rfl, q⟩ := h
    refine ⟨_, pss_one (ps_ret (pe_cmpR op_eq (pe_op op_and (pe_op op_shr (pv 1) (pv 0)) pe_int) pe_int (nomark _))), ?_⟩
    refine ⟨_, rfl, _, rfl, _, _, rfl, rfl, Int.natCast_nonneg _, _, _, rfl, rfl, rfl, ?_⟩
    rw [bit_is]
    exact q
/-! members_of -/
theorem sc_members_of : FnScope ["s", "parties", "party"] ["s", "parties"] (defScope s_members_of) := ⟨rfl, rfl, rfl, by decide +kernel, rfl, by decide +kernel, by decide +kernel⟩
def sp_members_of : Sp := fun vs H Q _ => ∃ (s n : Nat), vs = [.int (s : Int), .int (n : Int)] ∧ n ≤ 1000 ∧ ∀ p, H p = none → Q (.ref p) (upd H p (.lst (NL (mem n s))))
theorem ok_members_of {f : Addr} {fd : FuncData} (F : Fun K "members_of" "members_of" s_members_of f fd) (h1 : Has P w K mg base "is_in" 1 ["party", "s"] sp_is_in) (mr : mg "range" = none) : FnOk P w K mg base CX0 2 f fd ["s", "parties"] sp_members_of := by
  refine F.ok sc_members_of (fun vs H Q E h => ?_) (fun cdv A outer s H vs Q E hr h => ?_)
  · obtain ⟨m, n, rfl, _⟩ := h
    rfl
  · obtain ⟨z, n, rfl, hn, q⟩ := h
    refine ⟨_, pss_one (ps_ret (pe_lc (own := [("party", 2)]) (g := gName 2) rfl sc_members_of.nd (pi_range1 rfl mr (pa_cons (pv 1) pa_nil)) (blkOk_by (N := ["s", "parties", "party"]) (sc := defScope s_members_of) (own := [("party", 2)]) (by decide +kernel))
      (fun _ _ _ _ _ => pg_name (i := 2) sc_members_of.nd rfl (.inl rfl)) (fun _ _ _ _ _ => pts_one (pt_val (pe_has h1 hr (by rfl) (pa_cons (pv 2) (pa_cons (pv 0) pa_nil))))) (fun _ _ _ _ _ => pv 2))), ?_⟩
    refine ⟨_, rfl, _, rfl, by omega, by omega, fun D hD => lc_range (lo := 0) (n := n) (fun i H' => H' = upd H D (.lst (NL (mem i z)))) rfl ?_ ?_⟩
    · rintro i H' hi rfl
      refine ⟨rfl, _, rfl, _, rfl, i, z, ?_, _, rfl, ?_⟩
      · show [V.int (0 + (i : Int)), V.int (z : Int)] = _
        rw [Int.zero_add]
      · have e : mem (i + 1) z = mem i z ++ if z.testBit i = true then [i] else [] := by
          unfold mem
          rw [List.range_succ, List.filter_append]
          congr 1
          simp only [List.filter_cons, List.filter_nil]
        cases c : z.testBit i with
        | false =>
          rw [c] at e
          refine iteF ?_
          rw [e]
          simp
        | true =>
          rw [c] at e
          refine iteT ⟨_, rfl, _, upd_same, ?_, ?_⟩
          · rw [NL_len]
            refine small1000 (Nat.le_trans (List.length_filter_le _ _) ?_)
            rw [List.length_range]
            omega
          · rw [upd_upd, e, NL_app]
            show upd H D (.lst (NL (mem i z) ++ [V.int (0 + (i : Int))])) = _
            rw [Int.zero_add]
            rfl
    · rintro H' rfl
      have e : ((n : Int)).toNat = n := Int.toNat_natCast n
      exact q D hD
/-! has_most_seats -/
theorem sc_has_most_seats : FnScope ["s", "seats", "held", "party"] ["s", "seats"] (defScope s_has_most_seats) := ⟨rfl, rfl, rfl, by decide +kernel, rfl, by decide +kernel, by decide +kernel⟩
def sp_has_most_seats (K : PySem.W.Frag) : Sp := fun vs H Q _ => ∃ (s : Nat) (pa : Addr) (a : List Nat), vs = [.int (s : Int), .ref pa] ∧ SqL K H pa (NL a) ∧ a.length ≤ 1000 ∧ ∀ H', Same H H' → Q (.bl (most a s)) H'
theorem ok_has_most_seats {f : Addr} {fd : FuncData} (F : Fun K "has_most_seats" "has_most_seats" s_has_most_seats f fd) (h1 : Has P w K mg base "members_of" 2 ["s", "parties"] sp_members_of) (ml : mg "len" = none) (ms : mg "sum" = none) : FnOk P w K mg base CX0 3 f fd ["s", "seats"] (sp_has_most_seats K) := by
  refine F.ok sc_has_most_seats (fun vs H Q E h => ?_) (fun cdv A outer s H vs Q E hr h => ?_)
  · obtain ⟨z, pa, a, rfl, _⟩ := h
    rfl
  · obtain ⟨z, pa, a, rfl, hA, hn, q⟩ := h
    refine ⟨_, pss_cons (ps_set (i := 2) sc_has_most_seats.nd rfl (.inl rfl) (pe_callB (cr_sum rfl) (by rfl) ms (by decide +kernel) (pa_cons (pe_lc (own := [("party", 3)]) (g := gName 3) rfl sc_has_most_seats.nd
        (pi_list (pe_has h1 hr (by rfl) (pa_cons (pv 0) (pa_cons (pe_callB call_len_seq (by rfl) ml PySem.boot_len (pa_cons (pv 1) pa_nil)) pa_nil)))) (blkOk_by (N := ["s", "seats", "held", "party"]) (sc := defScope s_has_most_seats) (own := [("party", 3)]) (by decide +kernel))
        (fun _ _ _ _ _ => pg_name (i := 3) sc_has_most_seats.nd rfl (.inl rfl)) (fun _ _ _ _ _ => pts_nil) (fun _ _ _ _ _ => pe_ix (r := rIxL K) ix_list (pv 1) (pv 3) (fun _ _ => rfl))) pa_nil)))
      (pss_one (ps_ret (pe_cmpR op_gt (pe_op op_mul pe_int (pv 2)) (pe_callB (cr_sum rfl) (by rfl) ms (by decide +kernel) (pa_cons (pv 1) pa_nil)) (nomark _)))), ?_⟩
    refine ⟨_, rfl, _, rfl, pa, _, rfl, .inl hA, z, a.length, ?_, hn, fun p hp => ?_⟩
    · rw [NL_len]
      rfl
    have s1 : Same H (upd H p (.lst (NL (mem a.length z)))) := same_upd hp
    refine ⟨p, rfl, ⟨_, SqL.of upd_same⟩, fun D hD => lc_list (K := K) (a := p) (xs := NL (mem a.length z)) (fun i H' => H' = upd (upd H p (.lst (NL (mem a.length z)))) D (.lst (NL (((mem a.length z).take i).map fun j => a.getD j 0)))) rfl ?_ ?_ ?_⟩
    · rintro i H' hi rfl
      refine SqL.of ?_
      rw [upd_ne (ne_of_none upd_same hD), upd_same]
    · rintro i x H' hi rfl
      obtain ⟨j, hj, rfl⟩ := NL_item hi
      have hja : j < a.length := (mem_mem.mp (mem_of_get hj)).1
      refine ⟨rfl, _, rfl, _, rfl, pa, _, _, _, rfl, rfl, (s1.trans (same_upd hD)).seq hA, NL_at hja, _, upd_same, ?_, ?_⟩
      · rw [NL_len, List.length_map, List.length_take]
        refine small1000 (Nat.le_trans (Nat.min_le_right _ _) (Nat.le_trans (List.length_filter_le _ _) ?_))
        rw [List.length_range]
        exact hn
      · rw [upd_upd, take_more hj, List.map_append, NL_app]
        rfl
    · rintro H' rfl
      rw [NL_len, List.take_length]
      refine ⟨D, zs ((mem a.length z).map fun j => a.getD j 0), rfl, ?_, ?_⟩
      · rw [← NL_zs]
        exact SqL.of upd_same
      refine ⟨_, rfl, _, _, rfl, rfl, .inl ⟨by decide, by decide⟩, _, rfl, pa, zs a, rfl, ?_, _, _, rfl, rfl, ?_⟩
      · rw [← NL_zs]
        exact (s1.trans (same_upd hD)).seq hA
      · have e : most a z = decide ((zs a).sum < 2 * (zs ((mem a.length z).map fun j => a.getD j 0)).sum) := by
          rw [zs_sum, zs_sum]
          unfold most held
          exact deq (by omega)
        have q2 := q _ (s1.trans (same_upd (o := .lst (NL ((mem a.length z).map fun j => a.getD j 0))) hD))
        rw [e] at q2
        exact q2
/-! has_hate_within -/
theorem sc_has_hate_within : FnScope ["s", "hates", "k"] ["s", "hates"] (defScope s_has_hate_within) := ⟨rfl, rfl, rfl, by decide +kernel, rfl, by decide +kernel, by decide +kernel⟩
def sp_has_hate_within (K : PySem.W.Frag) : Sp := fun vs H Q _ => ∃ (s : Nat) (p : Addr) (k : List Nat), vs = [.int (s : Int), .ref p] ∧ SqL K H p (NL k) ∧ k.length % 2 = 0 ∧ k.length ≤ 40 ∧ Q (.bl (hateIn s (Ks468.two k))) H
theorem ok_has_hate_within {f : Addr} {fd : FuncData} (F : Fun K "has_hate_within" "has_hate_within" s_has_hate_within f fd) (h1 : Has P w K mg base "is_in" 1 ["party", "s"] sp_is_in) (ml : mg "len" = none) (mr : mg "range" = none) : FnOk P w K mg base CX0 2 f fd ["s", "hates"] (sp_has_hate_within K) := by
  refine F.ok sc_has_hate_within (fun vs H Q E h => ?_) (fun cdv A outer s H vs Q E hr h => ?_)
  · obtain ⟨n, p, k, rfl, _⟩ := h
    rfl
  · obtain ⟨n, p, k, rfl, hS, c1, c2, q⟩ := h
    refine ⟨_, pss_cons (ps_for PassesOwn.never rfl (pi_range3 rfl mr (pa_cons pe_int (pa_cons (pe_callB call_len_seq (by rfl) ml PySem.boot_len (pa_cons (pv 1) pa_nil)) (pa_cons pe_int pa_nil)))) (pg_name (i := 2) sc_has_hate_within.nd rfl (.inl rfl))
        (pss_one (ps_if (PW.pt (pw_and (pt_val (pe_has h1 hr (by rfl) (pa_cons (pe_ix ix_list (pv 1) (pv 2) (fun _ _ => rfl)) (pa_cons (pv 0) pa_nil)))) (pw_and1 (pt_val (pe_has h1 hr (by rfl) (pa_cons (pe_ix ix_list (pv 1) (pe_op op_add (pv 2) pe_int) (fun _ _ => rfl)) (pa_cons (pv 0) pa_nil))))))) (pss_one (ps_ret pe_bl)) pss_nil)))
      (pss_one (ps_ret pe_bl)), ?_⟩
    have hL := NL_len k
    refine ⟨_, rfl, p, _, rfl, .inl hS, 0, _, 2, k.length / 2, rfl, (by rw [hL]; exact rgc_two c1 c2), for_rangeC (lo := 0) (c := 2) (n := k.length / 2) (fun i σ H' => H' = H ∧ (∃ v : Option V, σ = [some (.int (n : Int)), some (.ref p), v]) ∧ hateIn n ((Ks468.two k).take i) = false) ⟨rfl, ⟨none, rfl⟩, rfl⟩ ?_ ?_⟩
    · rintro i σ H' hi ⟨rfl, ⟨v, rfl⟩, ha⟩
      have h1 : 2 * i + 1 < k.length := by omega
      have hz := two_get k i h1
      have a1 : ∀ z : Int, z = 0 + (i : Int) * 2 → atI (NL k) z = some (.int ((k.getD (2 * i) 0 : Nat) : Int)) := fun z e => NL_ats (i := 2 * i) (by omega) (by omega)
      have a2 : ∀ z : Int, z = 0 + (i : Int) * 2 + 1 → atI (NL k) z = some (.int ((k.getD (2 * i + 1) 0 : Nat) : Int)) := fun z e => NL_ats (i := 2 * i + 1) (by omega) (by omega)
      have hyes : (n.testBit (k.getD (2 * i) 0) && n.testBit (k.getD (2 * i + 1) 0)) = true → hateIn n (Ks468.two k) = true := fun hc => by
        unfold hateIn
        rw [List.any_eq_true]
        exact ⟨_, mem_of_get hz, hc⟩
      have hno : (n.testBit (k.getD (2 * i) 0) && n.testBit (k.getD (2 * i + 1) 0)) = false → hateIn n ((Ks468.two k).take (i + 1)) = false := fun hc => by
        unfold hateIn at *
        rw [take_more hz, List.any_append, ha, List.any_cons, hc]
        rfl
      generalize k.getD (2 * i) 0 = x at *
      generalize k.getD (2 * i + 1) 0 = y at *
      refine ⟨_, rfl, _, rfl, p, _, _, _, rfl, rfl, hS, a1 _ rfl, _, rfl, x, n, rfl, _, rfl, ?_⟩
      cases d1 : n.testBit x with
      | false =>
        rw [d1, Bool.false_and] at hno
        exact iteF (iteF ⟨rfl, ⟨_, rfl⟩, hno rfl⟩)
      | true =>
        rw [d1, Bool.true_and] at hno hyes
        refine iteT ⟨_, rfl, _, rfl, _, _, rfl, rfl, p, _, _, _, rfl, rfl, hS, a2 _ rfl, _, rfl, y, n, rfl, _, rfl, ?_⟩
        cases d2 : n.testBit y with
        | false => exact iteF ⟨rfl, ⟨_, rfl⟩, hno d2⟩
        | true =>
          rw [hyes d2] at q
          exact iteT q
    · rintro σ H' ⟨rfl, ⟨v, rfl⟩, ha⟩
      rw [← two_len, List.take_length] at ha
      rw [ha] at q
      exact q
/-! may_govern -/
theorem sc_may_govern : FnScope ["s", "seats", "hates"] ["s", "seats", "hates"] (defScope s_may_govern) := ⟨rfl, rfl, rfl, by decide +kernel, rfl, by decide +kernel, by decide +kernel⟩
def sp_may_govern (K : PySem.W.Frag) : Sp := fun vs H Q _ => ∃ (s : Nat) (pa : Addr) (a : List Nat) (pk : Addr) (k : List Nat), vs = [.int (s : Int), .ref pa, .ref pk] ∧ SqL K H pa (NL a) ∧ SqL K H pk (NL k) ∧ a.length ≤ 1000 ∧ k.length % 2 = 0 ∧ k.length ≤ 40 ∧ ∀ H', Same H H' → Q (.bl (gov a k s)) H'
theorem ok_may_govern {f : Addr} {fd : FuncData} (F : Fun K "may_govern" "may_govern" s_may_govern f fd) (h1 : Has P w K mg base "has_most_seats" 3 ["s", "seats"] (sp_has_most_seats K)) (h2 : Has P w K mg base "has_hate_within" 2 ["s", "hates"] (sp_has_hate_within K)) : FnOk P w K mg base CX0 4 f fd ["s", "seats", "hates"] (sp_may_govern K) := by
  refine F.ok sc_may_govern (fun vs H Q E h => ?_) (fun cdv A outer s H vs Q E hr h => ?_)
  · obtain ⟨z, pa, a, pk, k, rfl, _⟩ := h
    rfl
  · obtain ⟨z, pa, a, pk, k, rfl, hA, hK, c0, c1, c2, q⟩ := h
    refine ⟨_, pss_one (ps_ret (pe_and (pe_has h1 hr (by rfl) (pa_cons (pv 0) (pa_cons (pv 1) pa_nil))) (pe_one (pe_not (pe_has h2 (hr.mono (by decide)) (by rfl) (pa_cons (pv 0) (pa_cons (pv 2) pa_nil))))))), ?_⟩
    refine ⟨_, rfl, _, rfl, z, pa, a, rfl, hA, c0, fun H1 s1 => ⟨_, rfl, ?_⟩⟩
    have q1 := q H1 s1
    unfold gov at q1
    cases d1 : most a z with
    | false =>
      rw [d1, Bool.false_and] at q1
      exact iteF q1
    | true =>
      rw [d1, Bool.true_and] at q1
      exact iteT ⟨_, rfl, _, rfl, z, pk, k, rfl, s1.seq hK, c1, c2, _, rfl, q1⟩
/-! whose_turn -/
theorem sc_whose_turn : FnScope ["members", "seats", "had", "chosen", "party"] ["members", "seats", "had"] (defScope s_whose_turn) := ⟨rfl, rfl, rfl, by decide +kernel, rfl, by decide +kernel, by decide +kernel⟩
def sp_whose_turn (K : PySem.W.Frag) : Sp := fun vs H Q _ => ∃ (pm : Addr) (ms : List Nat) (pa : Addr) (a : List Nat) (pd : Addr) (d : List Nat), vs = [.ref pm, .ref pa, .ref pd] ∧ SqL K H pm (NL ms) ∧ SqL K H pa (NL a) ∧ SqL K H pd (NL d) ∧ ms ≠ [] ∧ (∀ x ∈ ms, x < a.length ∧ x < d.length) ∧ (∀ x ∈ a, x ≤ 200) ∧ Q (.int ((whose a d ms : Nat) : Int)) H
theorem getD_le {a : List Nat} (h : ∀ x ∈ a, x ≤ 200) (i : Nat) : a.getD i 0 ≤ 200 := by
  rw [List.getD_eq_getElem?_getD]
  cases e : a[i]? with
  | none => exact Nat.zero_le _
  | some v => exact h v (List.mem_of_getElem? e)
theorem ok_whose_turn {f : Addr} {fd : FuncData} (F : Fun K "whose_turn" "whose_turn" s_whose_turn f fd) : FnOk P w K mg base CX0 1 f fd ["members", "seats", "had"] (sp_whose_turn K) := by
  refine F.ok sc_whose_turn (fun vs H Q E h => ?_) (fun cdv A outer s H vs Q E hr h => ?_)
  · obtain ⟨pm, ms, pa, a, pd, d, rfl, _⟩ := h
    rfl
  · obtain ⟨pm, ms, pa, a, pd, d, rfl, hM, hA, hD, hne, hin, h200, q⟩ := h
    refine ⟨_, pss_cons (ps_set (i := 3) sc_whose_turn.nd rfl (.inl rfl) (pe_ix ix_list (pv 0) pe_int (fun _ _ => rfl)))
      (pss_cons (ps_for PassesOwn.never rfl (pi_list (pv 0)) (pg_name (i := 4) sc_whose_turn.nd rfl (.inl rfl))
        (pss_one (ps_if (pt_cmpR op_gt (pe_op op_mul (pe_ix ix_list (pv 1) (pv 4) (fun _ _ => rfl)) (pe_op op_add (pe_ix ix_list (pv 2) (pv 3) (fun _ _ => rfl)) pe_int)) (pe_op op_mul (pe_ix ix_list (pv 1) (pv 3) (fun _ _ => rfl)) (pe_op op_add (pe_ix ix_list (pv 2) (pv 4) (fun _ _ => rfl)) pe_int)) (nomark _))
          (pss_one (ps_set (i := 3) sc_whose_turn.nd rfl (.inl rfl) (pv 4))) pss_nil)))
      (pss_one (ps_ret (pv 3)))), ?_⟩
    obtain ⟨x0, r, rfl⟩ : ∃ x0 r, ms = x0 :: r := by
      cases ms with
      | nil => exact absurd rfl hne
      | cons x r => exact ⟨x, r, rfl⟩
    have hch : ∀ i, ((x0 :: r).take i).foldl (pick a d) x0 ∈ x0 :: r := fun i => by
      rcases fold_pick_mem a d ((x0 :: r).take i) x0 with h | h
      · rw [h]
        exact List.mem_cons_self
      · exact List.mem_of_mem_take h
    refine ⟨_, rfl, pm, _, _, _, rfl, rfl, hM, NL_ats (a := x0 :: r) (i := 0) rfl (Nat.succ_pos _), ?_⟩
    refine ⟨_, rfl, pm, rfl, ⟨_, hM⟩, for_list (K := K) (a := pm) (xs := NL (x0 :: r)) (fun i σ H' => H' = H ∧ ∃ v : Option V, σ = [some (.ref pm), some (.ref pa), some (.ref pd), some (.int ((((x0 :: r).take i).foldl (pick a d) x0 : Nat) : Int)), v]) ⟨rfl, none, rfl⟩ (fun i σ H' _ hP => by rw [hP.1]; exact hM) ?_ ?_⟩
    · rintro i y σ H' hi ⟨rfl, v, rfl⟩
      obtain ⟨z, hz, rfl⟩ := NL_item hi
      have hb := hch i
      have step : ((x0 :: r).take (i + 1)).foldl (pick a d) x0 = pick a d (((x0 :: r).take i).foldl (pick a d) x0) z := by
        rw [take_more hz, List.foldl_append]
        rfl
      rw [step]
      generalize ((x0 :: r).take i).foldl (pick a d) x0 = b at *
      obtain ⟨b1, b2⟩ := hin b hb
      obtain ⟨z1, z2⟩ := hin z (mem_of_get hz)
      have l1 := getD_le h200 z
      have l2 := getD_le h200 b
      refine ⟨_, rfl, _, rfl, pa, _, _, _, rfl, rfl, hA, NL_at z1, _, rfl, _, rfl, pd, _, _, _, rfl, rfl, hD, NL_at b2, _, _, rfl, rfl, _, _, rfl, rfl, .inl ⟨by omega, by omega⟩, ?_⟩
      refine ⟨_, rfl, _, rfl, pa, _, _, _, rfl, rfl, hA, NL_at b1, _, rfl, _, rfl, pd, _, _, _, rfl, rfl, hD, NL_at z2, _, _, rfl, rfl, _, _, rfl, rfl, .inl ⟨by omega, by omega⟩, _, _, rfl, rfl, _, rfl, ?_⟩
      have ec : decide ((a.getD b 0 : Int) * ((d.getD z 0 : Int) + 1) < (a.getD z 0 : Int) * ((d.getD b 0 : Int) + 1)) = decide (a.getD b 0 * (d.getD z 0 + 1) < a.getD z 0 * (d.getD b 0 + 1)) := deq (by
        rw [← Int.ofNat_lt, Int.natCast_mul, Int.natCast_mul, Int.natCast_add, Int.natCast_add]
        rfl)
      by_cases c : a.getD b 0 * (d.getD z 0 + 1) < a.getD z 0 * (d.getD b 0 + 1)
      · refine iff_true (ec.trans (decide_eq_true c)) ?_
        refine ⟨_, rfl, rfl, some (V.int (z : Int)), ?_⟩
        unfold pick
        rw [if_pos c]
        rfl
      · refine iff_false (ec.trans (decide_eq_false c)) ?_
        refine ⟨rfl, some (V.int (z : Int)), ?_⟩
        unfold pick
        rw [if_neg c]
        rfl
    · rintro σ H' ⟨rfl, v, rfl⟩
      rw [NL_len, List.take_length]
      exact ⟨_, rfl, q⟩
/-! offices_in -/
theorem sc_offices_in : FnScope ["m", "s", "seats", "members", "had", "office", "party"] ["m", "s", "seats"] (defScope s_offices_in) := ⟨rfl, rfl, rfl, by decide +kernel, rfl, by decide +kernel, by decide +kernel⟩
def sp_offices_in (K : PySem.W.Frag) : Sp := fun vs H Q _ => ∃ (m s : Nat) (pa : Addr) (a : List Nat), vs = [.int (m : Int), .int (s : Int), .ref pa] ∧ SqL K H pa (NL a) ∧ a.length ≤ 6 ∧ (∀ x ∈ a, x ≤ 200) ∧ m ≤ 10 ∧ mem a.length s ≠ [] ∧ ∀ p H', H p = none → Same H H' → H' p = some (.lst (NL (offsOf m a s))) → Q (.ref p) H'
theorem ok_offices_in {f : Addr} {fd : FuncData} (F : Fun K "offices_in" "offices_in" s_offices_in f fd) (h1 : Has P w K mg base "members_of" 2 ["s", "parties"] sp_members_of) (h2 : Has P w K mg base "whose_turn" 1 ["members", "seats", "had"] (sp_whose_turn K)) {t1 : _} (g1 : mg "MOST_PARTIES" = some (.int 6 t1)) (ml : mg "len" = none) (mr : mg "range" = none) : FnOk P w K mg base CX0 3 f fd ["m", "s", "seats"] (sp_offices_in K) := by
  refine F.ok sc_offices_in (fun vs H Q E h => ?_) (fun cdv A outer s H vs Q E hr h => ?_)
  · obtain ⟨m, z, pa, a, rfl, _⟩ := h
    rfl
  · obtain ⟨m, z, pa, a, rfl, hA, hn, h200, hm, hne, q⟩ := h
    refine ⟨_, pss_cons (ps_set (i := 3) sc_offices_in.nd rfl (.inl rfl) (pe_has h1 hr (by rfl) (pa_cons (pv 1) (pa_cons (pe_callB call_len_seq (by rfl) ml PySem.boot_len (pa_cons (pv 2) pa_nil)) pa_nil))))
      (pss_cons (ps_set (i := 4) sc_offices_in.nd rfl (.inl rfl) (pe_op op_rep (pe_lst (pa_cons pe_int pa_nil)) (pe_num rfl g1)))
      (pss_cons (ps_for PassesOwn.never rfl (pi_range1 rfl mr (pa_cons (pv 0) pa_nil)) (pg_name (i := 5) sc_offices_in.nd rfl (.inl rfl))
        (pss_cons (ps_set (i := 6) sc_offices_in.nd rfl (.inl rfl) (pe_has h2 (hr.mono (by decide)) (by rfl) (pa_cons (pv 3) (pa_cons (pv 2) (pa_cons (pv 4) pa_nil)))))
        (pss_one (ps_asg (pe_op op_add (pe_ix ix_list (pv 4) (pv 6) (fun _ _ => rfl)) pe_int) (pg_sub (pv 4) (pv 6) set_list)))))
      (pss_one (ps_ret (pv 4))))), ?_⟩
    refine ⟨_, rfl, _, rfl, pa, _, rfl, .inl hA, z, a.length, ?_, by omega, fun pm hpm => ?_⟩
    · rw [NL_len]
      rfl
    have s1 : Same H (upd H pm (.lst (NL (mem a.length z)))) := same_upd hpm
    refine ⟨by show 1 ≤ sizeLine; decide, fun p0 hp0 => ?_⟩
    have s2 := s1.trans (same_upd (o := .lst [V.int 0]) hp0)
    refine ⟨p0, 6, [V.int 0], rfl, rfl, upd_same, by decide, by decide, by show 1 * 6 ≤ sizeLine; decide, fun pd hpd => ?_⟩
    have s3 := s2.trans (same_upd (o := .lst (NL (List.replicate 6 0))) hpd)
    have n1 : pm ≠ p0 := ne_of_none upd_same hp0
    have npm : pm ≠ pd := ne_of_none (by rw [upd_ne n1, upd_same]) hpd
    have fm : (upd (upd (upd H pm (.lst (NL (mem a.length z)))) p0 (.lst [V.int 0])) pd (.lst (NL (List.replicate 6 0)))) pm = some (.lst (NL (mem a.length z))) := by
      rw [upd_ne npm, upd_ne n1, upd_same]
    have fd0 : H pd = none := s2.free hpd
    refine ⟨_, rfl, _, rfl, by omega, by omega, for_range (lo := 0) (n := m) (fun i σ H' => (∃ v5 v6 : Option V, σ = [some (.int (m : Int)), some (.int (z : Int)), some (.ref pa), some (.ref pm), some (.ref pd), v5, v6]) ∧ Same H H' ∧ H' pm = some (.lst (NL (mem a.length z))) ∧ H' pd = some (.lst (NL (offs a (mem a.length z) i)))) ⟨⟨none, none, rfl⟩, s3, fm, upd_same⟩ ?_ ?_⟩
    · rintro i σ H' hi ⟨⟨v5, v6, rfl⟩, sm, e1, e2⟩
      have hl := offs_len a (mem a.length z) i
      have hw := whose_mem a (offs a (mem a.length z) i) (mem a.length z) hne
      have hw6 : whose a (offs a (mem a.length z) i) (mem a.length z) < (offs a (mem a.length z) i).length := by
        rw [hl]
        exact Nat.lt_of_lt_of_le (mem_mem.mp hw).1 hn
      refine ⟨_, rfl, _, rfl, _, rfl, pm, mem a.length z, pa, a, pd, offs a (mem a.length z) i, rfl, SqL.of e1, sm.seq hA, SqL.of e2, hne, fun x hx => ?_, h200, ?_⟩
      · have := (mem_mem.mp hx).1
        exact ⟨this, by rw [hl]; omega⟩
      · refine ⟨_, rfl, _, rfl, pd, _, _, _, rfl, rfl, SqL.of e2, NL_at hw6, _, _, rfl, rfl, ?_⟩
        refine ⟨_, rfl, _, rfl, pd, _, _, _, rfl, rfl, e2, ixN_nat (by rw [NL_len]; exact hw6), ?_⟩
        refine ⟨⟨_, _, rfl⟩, fun b o hb => ?_, ?_, ?_⟩
        · rw [upd_ne (ne_of_none hb fd0)]
          exact sm b o hb
        · rw [upd_ne npm]
          exact e1
        · rw [upd_same]
          refine congrArg (fun l => some (HO.lst l)) ?_
          show (NL (offs a (mem a.length z) i)).set _ (V.int (((offs a (mem a.length z) i).getD (whose a (offs a (mem a.length z) i) (mem a.length z)) 0 + 1 : Nat) : Int)) = _
          rw [NL_set]
          rfl
    · rintro σ H' ⟨⟨v5, v6, rfl⟩, sm, e1, e2⟩
      exact ⟨_, rfl, q pd H' fd0 sm e2⟩
/-! governing_sets -/
theorem sc_governing_sets : FnScope ["seats", "hates", "s"] ["seats", "hates"] (defScope s_governing_sets) := ⟨rfl, rfl, rfl, by decide +kernel, rfl, by decide +kernel, by decide +kernel⟩
def sp_governing_sets (K : PySem.W.Frag) : Sp := fun vs H Q _ => ∃ (pa : Addr) (a : List Nat) (pk : Addr) (k : List Nat), vs = [.ref pa, .ref pk] ∧ SqL K H pa (NL a) ∧ SqL K H pk (NL k) ∧ a.length ≤ 6 ∧ k.length % 2 = 0 ∧ k.length ≤ 40 ∧ ∀ p H', H p = none → Same H H' → H' p = some (.lst (NL (govs a k))) → Q (.ref p) H'
theorem pow_six {n : Nat} (h : n ≤ 6) : 2 ^ n ≤ 64 := by
  have := Nat.pow_le_pow_right (n := 2) (by decide) h
  exact this
theorem govs_len (a k : List Nat) : (govs a k).length ≤ 2 ^ a.length := by
  refine Nat.le_trans (List.length_filter_le _ _) ?_
  rw [List.length_range']
  exact Nat.sub_le _ _
theorem ok_governing_sets {f : Addr} {fd : FuncData} (F : Fun K "governing_sets" "governing_sets" s_governing_sets f fd) (h1 : Has P w K mg base "may_govern" 4 ["s", "seats", "hates"] (sp_may_govern K)) (ml : mg "len" = none) (mr : mg "range" = none) : FnOk P w K mg base CX0 5 f fd ["seats", "hates"] (sp_governing_sets K) := by
  refine F.ok sc_governing_sets (fun vs H Q E h => ?_) (fun cdv A outer s H vs Q E hr h => ?_)
  · obtain ⟨pa, a, pk, k, rfl, _⟩ := h
    rfl
  · obtain ⟨pa, a, pk, k, rfl, hA, hK, c0, c1, c2, q⟩ := h
    refine ⟨_, pss_one (ps_ret (pe_lc (own := [("s", 2)]) (g := gName 2) rfl sc_governing_sets.nd (pi_range2 (by rfl) mr (pa_cons pe_int (pa_cons (pe_op op_shl pe_int (pe_callB call_len_seq (by rfl) ml PySem.boot_len (pa_cons (pv 0) pa_nil))) pa_nil))) (blkOk_by (N := ["seats", "hates", "s"]) (sc := defScope s_governing_sets) (own := [("s", 2)]) (by decide +kernel))
      (fun _ _ _ _ _ => pg_name (i := 2) sc_governing_sets.nd rfl (.inl rfl)) (fun _ _ _ _ _ => pts_one (pt_val (pe_has h1 hr (by rfl) (pa_cons (pv 2) (pa_cons (pv 0) (pa_cons (pv 1) pa_nil)))))) (fun _ _ _ _ _ => pv 2))), ?_⟩
    have hp6 := pow_six c0
    have hpos := Nat.two_pow_pos a.length
    have ez : (1 : Int) * 2 ^ (((NL a).length : Int)).toNat = ((2 ^ a.length : Nat) : Int) := by
      rw [NL_len, Int.toNat_natCast, Int.one_mul, pow_cast]
    refine ⟨_, rfl, pa, _, rfl, .inl hA, _, _, rfl, rfl, ⟨by omega, by rw [NL_len]; omega, by decide⟩, _, _, rfl, ⟨by decide, by decide, by rw [ez]; omega, by rw [ez]; omega⟩, fun D hD => ?_⟩
    rw [ez, show (((2 ^ a.length : Nat) : Int) - 1).toNat = 2 ^ a.length - 1 by omega]
    refine lc_range (lo := 1) (n := 2 ^ a.length - 1) (fun i H' => Same H H' ∧ H' D = some (.lst (NL ((List.range' 1 i).filter (gov a k))))) ⟨same_upd hD, upd_same⟩ ?_ ?_
    · rintro i H' hi ⟨sm, eD⟩
      refine ⟨rfl, _, rfl, _, rfl, _, rfl, 1 + i, pa, a, pk, k, rfl, sm.seq hA, sm.seq hK, by omega, c1, c2, fun H2 s2 => ⟨_, rfl, ?_⟩⟩
      have e : (List.range' 1 (i + 1)).filter (gov a k) = (List.range' 1 i).filter (gov a k) ++ if gov a k (1 + i) = true then [1 + i] else [] := by
        rw [List.range'_concat, List.filter_append, Nat.one_mul]
        congr 1
        simp only [List.filter_cons, List.filter_nil]
      cases c : gov a k (1 + i) with
      | false =>
        rw [c] at e
        refine iteF ⟨sm.trans s2, ?_⟩
        rw [e]
        simpa using s2 _ _ eD
      | true =>
        rw [c] at e
        refine iteT ⟨_, rfl, _, s2 _ _ eD, ?_, fun b o hb => ?_, ?_⟩
        · rw [NL_len]
          refine small1000 (Nat.le_trans (List.length_filter_le _ _) ?_)
          rw [List.length_range']
          omega
        · rw [upd_ne (ne_of_none hb hD)]
          exact s2 _ _ (sm b o hb)
        · rw [upd_same, e, NL_app]
          rfl
    · rintro H' ⟨sm, eD⟩
      exact q D H' hD sm eD
/-! all_have_more -/
theorem sc_all_have_more : FnScope ["members", "there", "here", "party"] ["members", "there", "here"] (defScope s_all_have_more) := ⟨rfl, rfl, rfl, by decide +kernel, rfl, by decide +kernel, by decide +kernel⟩
def sp_all_have_more (K : PySem.W.Frag) : Sp := fun vs H Q _ => ∃ (pm : Addr) (ms : List Nat) (pe : Addr) (e : List Nat) (pd : Addr) (d : List Nat), vs = [.ref pm, .ref pe, .ref pd] ∧ SqL K H pm (NL ms) ∧ SqL K H pe (NL e) ∧ SqL K H pd (NL d) ∧ (∀ x ∈ ms, x < e.length ∧ x < d.length) ∧ Q (.bl (ms.all fun i => decide (d.getD i 0 < e.getD i 0))) H
theorem ok_all_have_more {f : Addr} {fd : FuncData} (F : Fun K "all_have_more" "all_have_more" s_all_have_more f fd) : FnOk P w K mg base CX0 1 f fd ["members", "there", "here"] (sp_all_have_more K) := by
  refine F.ok sc_all_have_more (fun vs H Q E h => ?_) (fun cdv A outer s H vs Q E hr h => ?_)
  · obtain ⟨pm, ms, pe, e, pd, d, rfl, _⟩ := h
    rfl
  · obtain ⟨pm, ms, pe, e, pd, d, rfl, hM, hE, hD, hin, q⟩ := h
    refine ⟨_, pss_cons (ps_for PassesOwn.never rfl (pi_list (pv 0)) (pg_name (i := 3) sc_all_have_more.nd rfl (.inl rfl))
        (pss_one (ps_if (pt_cmpR op_le (pe_ix ix_list (pv 1) (pv 3) (fun _ _ => rfl)) (pe_ix ix_list (pv 2) (pv 3) (fun _ _ => rfl)) (nomark _)) (pss_one (ps_ret pe_bl)) pss_nil)))
      (pss_one (ps_ret pe_bl)), ?_⟩
    refine ⟨_, rfl, pm, rfl, ⟨_, hM⟩, for_list (K := K) (a := pm) (xs := NL ms) (fun i σ H' => H' = H ∧ (∃ v : Option V, σ = [some (.ref pm), some (.ref pe), some (.ref pd), v]) ∧ ((ms.take i).all fun i => decide (d.getD i 0 < e.getD i 0)) = true) ⟨rfl, ⟨none, rfl⟩, rfl⟩ (fun i σ H' _ hP => by rw [hP.1]; exact hM) ?_ ?_⟩
    · rintro i y σ H' hi ⟨rfl, ⟨v, rfl⟩, ha⟩
      obtain ⟨z, hz, rfl⟩ := NL_item hi
      obtain ⟨z1, z2⟩ := hin z (mem_of_get hz)
      refine ⟨_, rfl, _, rfl, pe, _, _, _, rfl, rfl, hE, NL_at z1, _, rfl, _, rfl, pd, _, _, _, rfl, rfl, hD, NL_at z2, _, _, rfl, rfl, _, rfl, ?_⟩
      by_cases c : d.getD z 0 < e.getD z 0
      · refine iff_false (decide_eq_false (by omega)) ⟨rfl, ⟨_, rfl⟩, ?_⟩
        rw [take_more hz, List.all_append, ha]
        simp only [List.all_cons, List.all_nil, Bool.true_and, Bool.and_true, decide_eq_true_eq]
        exact c
      · refine iff_true (decide_eq_true (by omega)) ?_
        have no : (ms.all fun i => decide (d.getD i 0 < e.getD i 0)) = false := by
          rw [Bool.eq_false_iff]
          intro y
          rw [List.all_eq_true] at y
          exact c (of_decide_eq_true (y z (mem_of_get hz)))
        rw [no] at q
        exact q
    · rintro σ H' ⟨rfl, ⟨v, rfl⟩, ha⟩
      rw [NL_len, List.take_length] at ha
      rw [ha] at q
      exact q
/-! is_left_for -/
theorem sc_is_left_for : FnScope ["m", "s", "other", "seats", "here", "there"] ["m", "s", "other", "seats"] (defScope s_is_left_for) := ⟨rfl, rfl, rfl, by decide +kernel, rfl, by decide +kernel, by decide +kernel⟩
def sp_is_left_for (K : PySem.W.Frag) : Sp := fun vs H Q _ => ∃ (m s t : Nat) (pa : Addr) (a : List Nat), vs = [.int (m : Int), .int (s : Int), .int (t : Int), .ref pa] ∧ SqL K H pa (NL a) ∧ a.length ≤ 6 ∧ (∀ x ∈ a, x ≤ 200) ∧ m ≤ 10 ∧ mem a.length s ≠ [] ∧ mem a.length t ≠ [] ∧ ∀ H', Same H H' → Q (.bl (more a (offsOf m a s) (offsOf m a t) t)) H'
theorem offsOf_len (m : Nat) (a : List Nat) (s : Nat) : (offsOf m a s).length = 6 := offs_len _ _ _
theorem ok_is_left_for {f : Addr} {fd : FuncData} (F : Fun K "is_left_for" "is_left_for" s_is_left_for f fd) (h1 : Has P w K mg base "offices_in" 3 ["m", "s", "seats"] (sp_offices_in K)) (h2 : Has P w K mg base "members_of" 2 ["s", "parties"] sp_members_of) (h3 : Has P w K mg base "all_have_more" 1 ["members", "there", "here"] (sp_all_have_more K)) (ml : mg "len" = none) : FnOk P w K mg base CX0 4 f fd ["m", "s", "other", "seats"] (sp_is_left_for K) := by
  refine F.ok sc_is_left_for (fun vs H Q E h => ?_) (fun cdv A outer s H vs Q E hr h => ?_)
  · obtain ⟨m, z, t, pa, a, rfl, _⟩ := h
    rfl
  · obtain ⟨m, z, t, pa, a, rfl, hA, hn, h200, hm, hne, hnt, q⟩ := h
    refine ⟨_, pss_cons (ps_set (i := 4) sc_is_left_for.nd rfl (.inl rfl) (pe_has h1 hr (by rfl) (pa_cons (pv 0) (pa_cons (pv 1) (pa_cons (pv 3) pa_nil)))))
      (pss_cons (ps_set (i := 5) sc_is_left_for.nd rfl (.inl rfl) (pe_has h1 hr (by rfl) (pa_cons (pv 0) (pa_cons (pv 2) (pa_cons (pv 3) pa_nil)))))
      (pss_one (ps_ret (pe_has h3 (hr.mono (by decide)) (by rfl) (pa_cons (pe_has h2 (hr.mono (by decide)) (by rfl) (pa_cons (pv 2) (pa_cons (pe_callB call_len_seq (by rfl) ml PySem.boot_len (pa_cons (pv 3) pa_nil)) pa_nil))) (pa_cons (pv 5) (pa_cons (pv 4) pa_nil))))))), ?_⟩
    refine ⟨_, rfl, _, rfl, _, rfl, m, z, pa, a, rfl, hA, hn, h200, hm, hne, fun ph H1 hph s1 e1 => ?_⟩
    refine ⟨_, rfl, _, rfl, _, rfl, m, t, pa, a, rfl, s1.seq hA, hn, h200, hm, hnt, fun pt H2 hpt s2 e2 => ?_⟩
    refine ⟨_, rfl, _, rfl, pa, _, rfl, .inl ((s1.trans s2).seq hA), t, a.length, ?_, by omega, fun pm hpm => ?_⟩
    · rw [NL_len]
      rfl
    have s3 : Same H2 (upd H2 pm (.lst (NL (mem a.length t)))) := same_upd hpm
    refine ⟨_, rfl, _, rfl, pm, mem a.length t, pt, offsOf m a t, ph, offsOf m a z, rfl, SqL.of upd_same, SqL.of (s3 _ _ e2), SqL.of (s3 _ _ (s2 _ _ e1)), fun x hx => ?_, q _ ((s1.trans s2).trans s3)⟩
    rw [offsOf_len, offsOf_len]
    have := (mem_mem.mp hx).1
    omega
/-! sets_left_for -/
theorem sc_sets_left_for : FnScope ["m", "s", "seats", "hates", "other"] ["m", "s", "seats", "hates"] (defScope s_sets_left_for) := ⟨rfl, rfl, rfl, by decide +kernel, rfl, by decide +kernel, by decide +kernel⟩
def sp_sets_left_for (K : PySem.W.Frag) : Sp := fun vs H Q _ => ∃ (m s : Nat) (pa : Addr) (a : List Nat) (pk : Addr) (k : List Nat), vs = [.int (m : Int), .int (s : Int), .ref pa, .ref pk] ∧ SqL K H pa (NL a) ∧ SqL K H pk (NL k) ∧ Fit m a k ∧ mem a.length s ≠ [] ∧ ∀ p H', H p = none → Same H H' → H' p = some (.lst (NL (left m a k s))) → Q (.ref p) H'
theorem filter_more {p : Nat → Bool} {l : List Nat} {i t : Nat} (h : l[i]? = some t) : (l.take (i + 1)).filter p = (l.take i).filter p ++ if p t = true then [t] else [] := by
  rw [take_more h, List.filter_append]
  congr 1
  simp only [List.filter_cons, List.filter_nil]
theorem filter_take_small {p : Nat → Bool} {a k : List Nat} {i : Nat} (hn : a.length ≤ 6) : (NL (((govs a k).take i).filter p)).length ≤ 1000 := by
  rw [NL_len]
  refine Nat.le_trans (List.length_filter_le _ _) ?_
  rw [List.length_take]
  have h1 := govs_len a k
  have h2 := pow_six hn
  omega
theorem ok_sets_left_for {f : Addr} {fd : FuncData} (F : Fun K "sets_left_for" "sets_left_for" s_sets_left_for f fd) (h1 : Has P w K mg base "governing_sets" 5 ["seats", "hates"] (sp_governing_sets K)) (h2 : Has P w K mg base "is_left_for" 4 ["m", "s", "other", "seats"] (sp_is_left_for K)) : FnOk P w K mg base CX0 6 f fd ["m", "s", "seats", "hates"] (sp_sets_left_for K) := by
  refine F.ok sc_sets_left_for (fun vs H Q E h => ?_) (fun cdv A outer s H vs Q E hr h => ?_)
  · obtain ⟨m, z, pa, a, pk, k, rfl, _⟩ := h
    rfl
  · obtain ⟨m, z, pa, a, pk, k, rfl, hA, hK, fit, hne, q⟩ := h
    refine ⟨_, pss_one (ps_ret (pe_lc (own := [("other", 4)]) (g := gName 4) rfl sc_sets_left_for.nd (pi_list (pe_has h1 hr (by rfl) (pa_cons (pv 2) (pa_cons (pv 3) pa_nil)))) (blkOk_by (N := ["m", "s", "seats", "hates", "other"]) (sc := defScope s_sets_left_for) (own := [("other", 4)]) (by decide +kernel))
      (fun _ _ _ _ _ => pg_name (i := 4) sc_sets_left_for.nd rfl (.inl rfl)) (fun _ _ _ _ _ => pts_one (pt_val (pe_has h2 (hr.mono (by decide)) (by rfl) (pa_cons (pv 0) (pa_cons (pv 1) (pa_cons (pv 4) (pa_cons (pv 2) pa_nil))))))) (fun _ _ _ _ _ => pv 4))), ?_⟩
    refine ⟨_, rfl, _, rfl, pa, a, pk, k, rfl, hA, hK, fit.a2, fit.k1, fit.k2, fun p H1 hp s1 e1 => ?_⟩
    refine ⟨p, rfl, ⟨_, SqL.of e1⟩, fun D hD => lc_list (K := K) (a := p) (xs := NL (govs a k)) (fun i H' => Same H1 H' ∧ H' D = some (.lst (NL (((govs a k).take i).filter fun t => more a (offsOf m a z) (offsOf m a t) t)))) ⟨same_upd hD, upd_same⟩ ?_ ?_ ?_⟩
    · rintro i H' hi ⟨sm, eD⟩
      exact SqL.of (sm _ _ e1)
    · rintro i x H' hi ⟨sm, eD⟩
      obtain ⟨t, ht, rfl⟩ := NL_item hi
      obtain ⟨t0, t1, _⟩ := govs_mem (mem_of_get ht)
      refine ⟨rfl, _, rfl, _, rfl, _, rfl, _, rfl, m, z, t, pa, a, rfl, (s1.trans sm).seq hA, fit.a2, fun x hx => (fit.as x hx).2, fit.m2, hne, mem_ne t0 t1, fun H2 s2 => ⟨_, rfl, ?_⟩⟩
      have e := filter_more (p := fun t => more a (offsOf m a z) (offsOf m a t) t) ht
      cases c : more a (offsOf m a z) (offsOf m a t) t with
      | false =>
        rw [c, if_neg Bool.false_ne_true, List.append_nil] at e
        refine iteF ⟨sm.trans s2, ?_⟩
        rw [e]
        exact s2 _ _ eD
      | true =>
        rw [c, if_pos rfl] at e
        refine iteT ⟨_, rfl, _, s2 _ _ eD, small1000 (filter_take_small fit.a2), fun b o hb => ?_, ?_⟩
        · rw [upd_ne (ne_of_none hb hD)]
          exact s2 _ _ (sm b o hb)
        · rw [upd_same, e, NL_app]
          rfl
    · rintro H' ⟨sm, eD⟩
      rw [NL_len, List.take_length] at eD
      exact q D H' (s1.free hD) (s1.trans sm) eD
/-! lists of numbers as data -/
theorem nl_all {H : Hp} : ∀ (l : List Nat), DpAll K H (NL l) ((zs l).map PyData.int)
  | [] => .nil
  | x :: r => .cons (.int _) (nl_all r)
theorem nl_dp {H : Hp} {p : Addr} {l : List Nat} (h : SqL K H p (NL l)) : Dp K H (.ref p) (.list ((zs l).map PyData.int)) := .lst h (nl_all l)
theorem nl_shaped (l : List Nat) : SeqAt.shaped (.list ((zs l).map PyData.int)) = true := PySem.W.shaped_ints _
theorem nl_eqv (l : List Nat) : PyData.eqv (.list ((zs l).map PyData.int)) (.list ((zs []).map PyData.int)) = l.isEmpty := by
  cases l with
  | nil => rfl
  | cons x r => rfl
/-! parts of a list, and what is in it -/
theorem nl_flat : ∀ (l : List Nat), (NL l).all flatV = true
  | [] => rfl
  | _ :: r => nl_flat r
theorem nl_in (t : Nat) : ∀ (l : List Nat), inV (.int (t : Int)) (NL l) = l.contains t
  | [] => rfl
  | x :: r => by
    show ((((x : Nat) : Int) == ((t : Nat) : Int)) || inV (.int (t : Int)) (NL r)) = _
    rw [nl_in t r, List.contains_cons]
    refine congrArg (· || r.contains t) ?_
    rw [Bool.eq_iff_iff, beq_iff_eq, beq_iff_eq]
    omega
theorem nl_tail (l : List Nat) : cutV (NL l) (some 1) none = NL (l.drop 1) := by
  have e : HT.sIx (NL l).length 0 (some 1) = min 1 (NL l).length := HT.sIx_nat _ _ 1
  unfold cutV
  rw [e, HT.sIx_none, NL_len]
  cases l with
  | nil => rfl
  | cons x r =>
    rw [Nat.min_eq_left (by rw [List.length_cons]; omega)]
    show (NL r).take (r.length + 1 - 1) = NL r
    rw [Nat.add_sub_cancel]
    exact List.take_of_length_le (by rw [NL_len]; exact Nat.le_refl _)
theorem nl_head (l : List Nat) : cutV (NL l) none (some 1) = NL (l.take 1) := by
  have e : HT.sIx (NL l).length (NL l).length (some 1) = min 1 (NL l).length := HT.sIx_nat _ _ 1
  unfold cutV
  rw [e, HT.sIx_none, NL_len]
  cases l with
  | nil => rfl
  | cons x r =>
    rw [Nat.min_eq_left (by rw [List.length_cons]; omega)]
    rfl
/-! way_on -/
theorem sc_way_on : FnScope ["m", "s", "seats", "hates", "there", "sets"] ["m", "s", "seats", "hates"] (defScope s_way_on) := ⟨rfl, rfl, rfl, by decide +kernel, rfl, by decide +kernel, by decide +kernel⟩
def sp_way_on (K : PySem.W.Frag) : Sp := fun vs H Q _ => ∃ (m s : Nat) (pa : Addr) (a : List Nat) (pk : Addr) (k : List Nat), vs = [.int (m : Int), .int (s : Int), .ref pa, .ref pk] ∧ SqL K H pa (NL a) ∧ SqL K H pk (NL k) ∧ Fit m a k ∧ s ≠ 0 ∧ s < 2 ^ a.length ∧ ∀ p H', H p = none → Same H H' → H' p = some (.lst (NL (onL m a k 64 [s] s))) → Q (.ref p) H'
def WayAt (m z : Nat) (pa pk pt : Addr) (a k : List Nat) (H : Hp) (g : Nat) (σ : L2.St) (H' : Hp) : Prop := ∃ (T : List Nat) (c : Nat) (ps : Addr), σ = [some (.int (m : Int)), some (.int (z : Int)), some (.ref pa), some (.ref pk), some (.ref pt), some (.ref ps)] ∧ Same H H' ∧ H' pt = some (.lst (NL T)) ∧ H' ps = some (.lst (NL (left m a k c))) ∧ pt ≠ ps ∧ Way m a k z g T c
theorem ok_way_on {f : Addr} {fd : FuncData} (F : Fun K "way_on" "way_on" s_way_on f fd) (h1 : Has P w K mg base "sets_left_for" 6 ["m", "s", "seats", "hates"] (sp_sets_left_for K)) : FnOk P w K mg base CX0 7 f fd ["m", "s", "seats", "hates"] (sp_way_on K) := by
  refine F.ok sc_way_on (fun vs H Q E h => ?_) (fun cdv A outer s H vs Q E hr h => ?_)
  · obtain ⟨m, z, pa, a, pk, k, rfl, _⟩ := h
    rfl
  · obtain ⟨m, z, pa, a, pk, k, rfl, hA, hK, fit, z0, z1, q⟩ := h
    refine ⟨_, pss_cons (ps_set (i := 4) sc_way_on.nd rfl (.inl rfl) (pe_lst (pa_cons (pv 1) pa_nil)))
      (pss_cons (ps_set (i := 5) sc_way_on.nd rfl (.inl rfl) (pe_has h1 hr (by rfl) (pa_cons (pv 0) (pa_cons (pv 1) (pa_cons (pv 2) (pa_cons (pv 3) pa_nil))))))
      (pss_cons (ps_while PassesOwn.never (PW.pt (pw_and (pt_cmpR (op_neD hr.units) (pv 5) (pe_lst pa_nil) (nomark _)) (pw_and1 (pt_cmpR op_notIn_seq (pe_ix ix_list (pv 5) pe_int (fun _ _ => rfl)) (pv 4) (by rfl)))))
          (pss_cons (ps_expr (pe_bm PySem.F.plainAttrs_list PySem.F.slot_list_append PySem.F.type_list_append mt_append (pv 4) (pa_cons (pe_ix ix_list (pv 5) pe_int (fun _ _ => rfl)) pa_nil)))
          (pss_one (ps_set (i := 5) sc_way_on.nd rfl (.inl rfl) (pe_has h1 hr (by rfl) (pa_cons (pv 0) (pa_cons (pe_ix ix_list (pv 5) pe_int (fun _ _ => rfl)) (pa_cons (pv 2) (pa_cons (pv 3) pa_nil)))))))))
      (pss_one (ps_ret (pe_op op_cat (pe_slice sl_list (pv 4) (po_some pe_int) po_none) (pe_slice sl_list (pv 5) po_none (po_some pe_int))))))), ?_⟩
    refine ⟨_, rfl, by show 1 ≤ sizeLine; decide, fun pt hpt => ?_⟩
    have s1 : Same H (upd H pt (.lst (NL [z]))) := same_upd hpt
    refine ⟨_, rfl, _, rfl, _, rfl, _, rfl, m, z, pa, a, pk, k, rfl, s1.seq hA, s1.seq hK, fit, mem_ne z0 z1, fun ps0 H2 hps0 s2 e2 => ?_⟩
    refine ⟨WayAt m z pa pk pt a k H, ⟨64, [z], z, ps0, rfl, s1.trans s2, s2 _ _ upd_same, e2, ne_of_none upd_same hps0, way_start z0 z1⟩, ?_⟩
    rintro g σ H' ⟨T, c, ps, rfl, sm, eT, eS, ne, W⟩
    obtain ⟨hT, n, rfl⟩ := way_len fit.a2 W
    have big : (1000 : Nat) < sizeLine := by decide
    have fin : ∀ H3, Same H' H3 → T.drop 1 ++ (left m a k c).take 1 = onL m a k 64 [z] z → ∀ p1, H3 p1 = none → ∀ p2, upd H3 p1 (.lst (cutV (NL T) (some 1) none)) p2 = none → rCat (.ref p1) (.ref p2) (upd (upd H3 p1 (.lst (cutV (NL T) (some 1) none))) p2 (.lst (cutV (NL (left m a k c)) none (some 1)))) Q := fun H3 s3 he p1 hp1 p2 hp2 => by
      have n12 : p1 ≠ p2 := ne_of_none upd_same hp2
      refine ⟨p1, p2, cutV (NL T) (some 1) none, _, rfl, rfl, ?_, upd_same, ?_, fun pr hpr => ?_⟩
      · rw [upd_ne n12]
        exact upd_same
      · rw [nl_tail, nl_head, NL_len, NL_len, List.length_drop, List.length_take]
        omega
      · have s4 := ((sm.trans s3).trans (same_upd hp1)).trans (same_upd (o := .lst (cutV (NL (left m a k c)) none (some 1))) hp2)
        refine q pr _ (s4.free hpr) (s4.trans (same_upd hpr)) ?_
        rw [upd_same, nl_tail, nl_head, ← NL_app, he]
    refine ⟨_, rfl, by show 0 ≤ sizeLine; decide, fun pn hpn => ?_⟩
    have s3 : Same H' (upd H' pn (.lst [])) := same_upd hpn
    refine ⟨_, _, nl_dp (l := left m a k c) (SqL.of (s3 _ _ eS)), nl_dp (l := []) (SqL.of upd_same), nl_shaped _, nl_shaped _, _, rfl, ?_⟩
    rw [nl_eqv]
    cases e : left m a k c with
    | nil =>
      rw [e] at fin eS
      refine iteF (iteF ⟨_, rfl, _, rfl, pt, _, rfl, SqL.of (s3 _ _ eT), fun p1 hp1 => ⟨_, rfl, _, rfl, ps, _, rfl, SqL.of (same_upd hp1 _ _ (s3 _ _ eS)), fun p2 hp2 => ?_⟩⟩)
      refine fin _ s3 ?_ p1 hp1 p2 hp2
      rw [way_none fit.a2 W e |>.symm]
      exact List.append_nil _
    | cons t r =>
      rw [e] at fin eS
      refine iteT ⟨_, rfl, ps, _, _, _, rfl, rfl, SqL.of (s3 _ _ eS), NL_ats (a := t :: r) (i := 0) rfl (Nat.succ_pos _), _, rfl, pt, _, rfl, .inl (SqL.of (s3 _ _ eT)), rfl, nl_flat T, _, rfl, ?_⟩
      show if (!inV (.int (t : Int)) (NL T)) = true then _ else _
      rw [nl_in]
      cases ct : T.contains t with
      | true =>
        refine iteF ⟨_, rfl, _, rfl, pt, _, rfl, SqL.of (s3 _ _ eT), fun p1 hp1 => ⟨_, rfl, _, rfl, ps, _, rfl, SqL.of (same_upd hp1 _ _ (s3 _ _ eS)), fun p2 hp2 => ?_⟩⟩
        exact fin _ s3 (way_round fit.a2 W e ct) p1 hp1 p2 hp2
      | false =>
        have W2 := way_next W e ct
        refine iteT ⟨WayAt m z pa pk pt a k H n, fun σ' H'' h => ⟨n, Nat.lt_succ_self _, h⟩, ?_⟩
        refine ⟨_, rfl, .inl ⟨rfl, _, SqL.of (s3 _ _ eT)⟩, _, rfl, ps, _, _, _, rfl, rfl, SqL.of (s3 _ _ eS), NL_ats (a := t :: r) (i := 0) rfl (Nat.succ_pos _), pt, _, _, rfl, rfl, s3 _ _ eT, by rw [NL_len]; omega, ?_⟩
        have s4 : Same H (upd (upd H' pn (.lst [])) pt (.lst (NL T ++ [.int (t : Int)]))) := fun b o hb => by
          rw [upd_ne (ne_of_none hb hpt)]
          exact s3 _ _ (sm _ _ hb)
        have eS2 : upd (upd H' pn (.lst [])) pt (.lst (NL T ++ [.int (t : Int)])) ps = some (.lst (NL (t :: r))) := by
          rw [upd_ne ne.symm]
          exact s3 _ _ eS
        refine ⟨_, rfl, _, rfl, ps, _, _, _, rfl, rfl, SqL.of eS2, NL_ats (a := t :: r) (i := 0) rfl (Nat.succ_pos _), _, rfl, _, rfl, m, t, pa, a, pk, k, rfl, s4.seq hA, s4.seq hK, fit, mem_ne W2.c0 W2.c1, fun p5 H5 hp5 s5 e5 => ?_⟩
        refine ⟨T ++ [t], t, p5, rfl, s4.trans s5, ?_, e5, ne_of_none upd_same hp5, W2⟩
        rw [NL_app]
        exact s5 _ _ upd_same
/-! on -/
theorem sc_on : FnScope ["m", "s", "seats", "hates", "way"] ["m", "s", "seats", "hates"] (defScope s_on) := ⟨rfl, rfl, rfl, by decide +kernel, rfl, by decide +kernel, by decide +kernel⟩
def sp_on (K : PySem.W.Frag) : Sp := fun vs H Q _ => ∃ (m s : Nat) (pa : Addr) (a : List Nat) (pk : Addr) (k : List Nat), vs = [.int (m : Int), .int (s : Int), .ref pa, .ref pk] ∧ SqL K H pa (NL a) ∧ SqL K H pk (NL k) ∧ ∀ p H', H' p = some (.lst ((onZ m s a k).map V.int)) → Q (.ref p) H'
theorem ok_on {f : Addr} {fd : FuncData} (F : Fun K "on" "on" s_on f fd) (h1 : Has P w K mg base "house_fits" 2 ["m", "seats", "hates"] (sp_house_fits K)) (h2 : Has P w K mg base "set_fits" 1 ["s", "parties"] sp_set_fits) (h3 : Has P w K mg base "way_on" 7 ["m", "s", "seats", "hates"] (sp_way_on K)) {t1 t2 : _} (g1 : mg "REFUSED_HOUSE" = some (.int (-22) t1)) (g2 : mg "REFUSED_CHOICE" = some (.int (-2) t2)) (ml : mg "len" = none) : FnOk P w K mg base CX0 8 f fd ["m", "s", "seats", "hates"] (sp_on K) := by
  refine F.ok sc_on (fun vs H Q E h => ?_) (fun cdv A outer s H vs Q E hr h => ?_)
  · obtain ⟨m, z, pa, a, pk, k, rfl, _⟩ := h
    rfl
  · obtain ⟨m, z, pa, a, pk, k, rfl, hA, hK, q⟩ := h
    refine ⟨_, pss_cons (ps_if (pt_not (pt_val (pe_has h1 (hr.mono (by decide)) (by rfl) (pa_cons (pv 0) (pa_cons (pv 2) (pa_cons (pv 3) pa_nil)))))) (pss_one (ps_ret (pe_lst (pa_cons (pe_num rfl g1) pa_nil)))) pss_nil)
      (pss_cons (ps_if (pt_not (pt_val (pe_has h2 (hr.mono (by decide)) (by rfl) (pa_cons (pv 1) (pa_cons (pe_callB call_len_seq (by rfl) ml PySem.boot_len (pa_cons (pv 2) pa_nil)) pa_nil))))) (pss_one (ps_ret (pe_lst (pa_cons (pe_num rfl g2) pa_nil)))) pss_nil)
      (pss_cons (ps_set (i := 4) sc_on.nd rfl (.inl rfl) (pe_has h3 hr (by rfl) (pa_cons (pv 0) (pa_cons (pv 1) (pa_cons (pv 2) (pa_cons (pv 3) pa_nil))))))
      (pss_one (ps_ret (pe_op op_cat (pe_lst (pa_cons (pe_callB call_len_seq (by rfl) ml PySem.boot_len (pa_cons (pv 4) pa_nil)) pa_nil)) (pv 4)))))), ?_⟩
    refine ⟨_, rfl, _, rfl, _, rfl, m, pa, a, pk, k, rfl, hA, hK, _, rfl, ?_⟩
    unfold onZ at q
    cases c : okAll m a k with
    | false =>
      rw [c, if_neg Bool.false_ne_true] at q
      exact iteT ⟨by show 1 ≤ sizeLine; decide, fun p hp => q p _ upd_same⟩
    | true =>
      rw [c, if_pos rfl] at q
      have fit := fit_of c
      have a2 := fit.a2
      refine iteF ⟨_, rfl, _, rfl, pa, _, rfl, .inl hA, z, a.length, ?_, by omega, _, rfl, ?_⟩
      · rw [NL_len]
        rfl
      by_cases c2 : z = 0 ∨ 2 ^ a.length ≤ z
      · have e : (decide (1 ≤ z) && decide (z < 2 ^ a.length)) = false := by
          rcases c2 with c2 | c2
          · rw [decide_eq_false (by omega), Bool.false_and]
          · rw [decide_eq_false (by omega : ¬ z < 2 ^ a.length), Bool.and_false]
        rw [if_pos c2] at q
        rw [e]
        exact iteT ⟨by show 1 ≤ sizeLine; decide, fun p hp => q p _ upd_same⟩
      · have e : (decide (1 ≤ z) && decide (z < 2 ^ a.length)) = true := by
          rw [decide_eq_true (by omega : 1 ≤ z), decide_eq_true (by omega : z < 2 ^ a.length)]
          rfl
        rw [if_neg c2] at q
        rw [e]
        have hgl := onL_len m a k 64 [z] z
        refine iteF ⟨_, rfl, _, rfl, _, rfl, _, rfl, m, z, pa, a, pk, k, rfl, hA, hK, fit, by omega, by omega, fun p H1 hp s1 e1 => ?_⟩
        refine ⟨_, rfl, p, _, rfl, .inl (SqL.of e1), by show 1 ≤ sizeLine; decide, fun pg hpg => ?_⟩
        refine ⟨_, rfl, pg, p, _, _, rfl, rfl, upd_same, same_upd hpg _ _ e1, ?_, fun pr hpr => q pr _ ?_⟩
        · rw [NL_len]
          show 1 + (onL m a k 64 [z] z).length ≤ sizeLine
          have : (1000 : Nat) < sizeLine := by decide
          omega
        · unfold rowsZ
          rw [upd_same, List.map_cons, ← NL_zs, NL_len]
          rfl
end
/-! ### The end: what the top has written -/
theorem all_mk {P : Program} {w : World} {K : PySem.W.Frag} {h : Heap} {mg : Str → Option Value} {fa f0 f1 f2 f3 f4 f5 f6 f7 f8 f9 f10 f11 f12 f13 f14 f15 f16 f17 : Addr} (X : K.In h) (G : h.Ns mainGlobals mg) (hfa : mg "on" = some (.ref fa))
    {od0 an0 od1 an1 od2 an2 od3 an3 od4 an4 od5 an5 od6 an6 od7 an7 od8 an8 od9 an9 od10 an10 od11 an11 od12 an12 od13 an13 od14 an14 od15 an15 od16 an16 od17 an17 : Option Addr} {sl0 sl1 sl2 sl3 sl4 sl5 sl6 sl7 sl8 sl9 sl10 sl11 sl12 sl13 sl14 sl15 sl16 sl17 : Array (Option Value)} {oc0 kV0 dc0 pm0 cd0 ct0 oc1 kV1 dc1 pm1 cd1 ct1 oc2 kV2 dc2 pm2 cd2 ct2 oc3 kV3 dc3 pm3 cd3 ct3 oc4 kV4 dc4 pm4 cd4 ct4 oc5 kV5 dc5 pm5 cd5 ct5 oc6 kV6 dc6 pm6 cd6 ct6 oc7 kV7 dc7 pm7 cd7 ct7 oc8 kV8 dc8 pm8 cd8 ct8 oc9 kV9 dc9 pm9 cd9 ct9 oc10 kV10 dc10 pm10 cd10 ct10 oc11 kV11 dc11 pm11 cd11 ct11 oc12 kV12 dc12 pm12 cd12 ct12 oc13 kV13 dc13 pm13 cd13 ct13 oc14 kV14 dc14 pm14 cd14 ct14 oc15 kV15 dc15 pm15 cd15 ct15 oc16 kV16 dc16 pm16 cd16 ct16 oc17 kV17 dc17 pm17 cd17 ct17 : Value}
    (a0 : PySem.W.nsIn K mainGlobals "offices_fit" = some (some (.ref f0))) (l0 : K.lookup f0 = some ⟨oc0, od0, .func (PySem.W.fnOf "offices_fit" "offices_fit" (defArgs s_offices_fit) (defBody s_offices_fit) (defScope s_offices_fit) .none kV0 dc0 pm0 an0 cd0 ct0), sl0⟩) (c0 : PySem.W.codeIn K cd0 "offices_fit" = true) (k0 : PySem.W.keepIn K (.ref f0) = true)
    (a1 : PySem.W.nsIn K mainGlobals "seats_fit" = some (some (.ref f1))) (l1 : K.lookup f1 = some ⟨oc1, od1, .func (PySem.W.fnOf "seats_fit" "seats_fit" (defArgs s_seats_fit) (defBody s_seats_fit) (defScope s_seats_fit) .none kV1 dc1 pm1 an1 cd1 ct1), sl1⟩) (c1 : PySem.W.codeIn K cd1 "seats_fit" = true) (k1 : PySem.W.keepIn K (.ref f1) = true)
    (a2 : PySem.W.nsIn K mainGlobals "hates_fit" = some (some (.ref f2))) (l2 : K.lookup f2 = some ⟨oc2, od2, .func (PySem.W.fnOf "hates_fit" "hates_fit" (defArgs s_hates_fit) (defBody s_hates_fit) (defScope s_hates_fit) .none kV2 dc2 pm2 an2 cd2 ct2), sl2⟩) (c2 : PySem.W.codeIn K cd2 "hates_fit" = true) (k2 : PySem.W.keepIn K (.ref f2) = true)
    (a3 : PySem.W.nsIn K mainGlobals "house_fits" = some (some (.ref f3))) (l3 : K.lookup f3 = some ⟨oc3, od3, .func (PySem.W.fnOf "house_fits" "house_fits" (defArgs s_house_fits) (defBody s_house_fits) (defScope s_house_fits) .none kV3 dc3 pm3 an3 cd3 ct3), sl3⟩) (c3 : PySem.W.codeIn K cd3 "house_fits" = true) (k3 : PySem.W.keepIn K (.ref f3) = true)
    (a4 : PySem.W.nsIn K mainGlobals "set_fits" = some (some (.ref f4))) (l4 : K.lookup f4 = some ⟨oc4, od4, .func (PySem.W.fnOf "set_fits" "set_fits" (defArgs s_set_fits) (defBody s_set_fits) (defScope s_set_fits) .none kV4 dc4 pm4 an4 cd4 ct4), sl4⟩) (c4 : PySem.W.codeIn K cd4 "set_fits" = true) (k4 : PySem.W.keepIn K (.ref f4) = true)
    (a5 : PySem.W.nsIn K mainGlobals "is_in" = some (some (.ref f5))) (l5 : K.lookup f5 = some ⟨oc5, od5, .func (PySem.W.fnOf "is_in" "is_in" (defArgs s_is_in) (defBody s_is_in) (defScope s_is_in) .none kV5 dc5 pm5 an5 cd5 ct5), sl5⟩) (c5 : PySem.W.codeIn K cd5 "is_in" = true) (k5 : PySem.W.keepIn K (.ref f5) = true)
    (a6 : PySem.W.nsIn K mainGlobals "members_of" = some (some (.ref f6))) (l6 : K.lookup f6 = some ⟨oc6, od6, .func (PySem.W.fnOf "members_of" "members_of" (defArgs s_members_of) (defBody s_members_of) (defScope s_members_of) .none kV6 dc6 pm6 an6 cd6 ct6), sl6⟩) (c6 : PySem.W.codeIn K cd6 "members_of" = true) (k6 : PySem.W.keepIn K (.ref f6) = true)
    (a7 : PySem.W.nsIn K mainGlobals "has_most_seats" = some (some (.ref f7))) (l7 : K.lookup f7 = some ⟨oc7, od7, .func (PySem.W.fnOf "has_most_seats" "has_most_seats" (defArgs s_has_most_seats) (defBody s_has_most_seats) (defScope s_has_most_seats) .none kV7 dc7 pm7 an7 cd7 ct7), sl7⟩) (c7 : PySem.W.codeIn K cd7 "has_most_seats" = true) (k7 : PySem.W.keepIn K (.ref f7) = true)
    (a8 : PySem.W.nsIn K mainGlobals "has_hate_within" = some (some (.ref f8))) (l8 : K.lookup f8 = some ⟨oc8, od8, .func (PySem.W.fnOf "has_hate_within" "has_hate_within" (defArgs s_has_hate_within) (defBody s_has_hate_within) (defScope s_has_hate_within) .none kV8 dc8 pm8 an8 cd8 ct8), sl8⟩) (c8 : PySem.W.codeIn K cd8 "has_hate_within" = true) (k8 : PySem.W.keepIn K (.ref f8) = true)
    (a9 : PySem.W.nsIn K mainGlobals "may_govern" = some (some (.ref f9))) (l9 : K.lookup f9 = some ⟨oc9, od9, .func (PySem.W.fnOf "may_govern" "may_govern" (defArgs s_may_govern) (defBody s_may_govern) (defScope s_may_govern) .none kV9 dc9 pm9 an9 cd9 ct9), sl9⟩) (c9 : PySem.W.codeIn K cd9 "may_govern" = true) (k9 : PySem.W.keepIn K (.ref f9) = true)
    (a10 : PySem.W.nsIn K mainGlobals "whose_turn" = some (some (.ref f10))) (l10 : K.lookup f10 = some ⟨oc10, od10, .func (PySem.W.fnOf "whose_turn" "whose_turn" (defArgs s_whose_turn) (defBody s_whose_turn) (defScope s_whose_turn) .none kV10 dc10 pm10 an10 cd10 ct10), sl10⟩) (c10 : PySem.W.codeIn K cd10 "whose_turn" = true) (k10 : PySem.W.keepIn K (.ref f10) = true)
    (a11 : PySem.W.nsIn K mainGlobals "offices_in" = some (some (.ref f11))) (l11 : K.lookup f11 = some ⟨oc11, od11, .func (PySem.W.fnOf "offices_in" "offices_in" (defArgs s_offices_in) (defBody s_offices_in) (defScope s_offices_in) .none kV11 dc11 pm11 an11 cd11 ct11), sl11⟩) (c11 : PySem.W.codeIn K cd11 "offices_in" = true) (k11 : PySem.W.keepIn K (.ref f11) = true)
    (a12 : PySem.W.nsIn K mainGlobals "governing_sets" = some (some (.ref f12))) (l12 : K.lookup f12 = some ⟨oc12, od12, .func (PySem.W.fnOf "governing_sets" "governing_sets" (defArgs s_governing_sets) (defBody s_governing_sets) (defScope s_governing_sets) .none kV12 dc12 pm12 an12 cd12 ct12), sl12⟩) (c12 : PySem.W.codeIn K cd12 "governing_sets" = true) (k12 : PySem.W.keepIn K (.ref f12) = true)
    (a13 : PySem.W.nsIn K mainGlobals "all_have_more" = some (some (.ref f13))) (l13 : K.lookup f13 = some ⟨oc13, od13, .func (PySem.W.fnOf "all_have_more" "all_have_more" (defArgs s_all_have_more) (defBody s_all_have_more) (defScope s_all_have_more) .none kV13 dc13 pm13 an13 cd13 ct13), sl13⟩) (c13 : PySem.W.codeIn K cd13 "all_have_more" = true) (k13 : PySem.W.keepIn K (.ref f13) = true)
    (a14 : PySem.W.nsIn K mainGlobals "is_left_for" = some (some (.ref f14))) (l14 : K.lookup f14 = some ⟨oc14, od14, .func (PySem.W.fnOf "is_left_for" "is_left_for" (defArgs s_is_left_for) (defBody s_is_left_for) (defScope s_is_left_for) .none kV14 dc14 pm14 an14 cd14 ct14), sl14⟩) (c14 : PySem.W.codeIn K cd14 "is_left_for" = true) (k14 : PySem.W.keepIn K (.ref f14) = true)
    (a15 : PySem.W.nsIn K mainGlobals "sets_left_for" = some (some (.ref f15))) (l15 : K.lookup f15 = some ⟨oc15, od15, .func (PySem.W.fnOf "sets_left_for" "sets_left_for" (defArgs s_sets_left_for) (defBody s_sets_left_for) (defScope s_sets_left_for) .none kV15 dc15 pm15 an15 cd15 ct15), sl15⟩) (c15 : PySem.W.codeIn K cd15 "sets_left_for" = true) (k15 : PySem.W.keepIn K (.ref f15) = true)
    (a16 : PySem.W.nsIn K mainGlobals "way_on" = some (some (.ref f16))) (l16 : K.lookup f16 = some ⟨oc16, od16, .func (PySem.W.fnOf "way_on" "way_on" (defArgs s_way_on) (defBody s_way_on) (defScope s_way_on) .none kV16 dc16 pm16 an16 cd16 ct16), sl16⟩) (c16 : PySem.W.codeIn K cd16 "way_on" = true) (k16 : PySem.W.keepIn K (.ref f16) = true)
    (a17 : PySem.W.nsIn K mainGlobals "on" = some (some (.ref f17))) (l17 : K.lookup f17 = some ⟨oc17, od17, .func (PySem.W.fnOf "on" "on" (defArgs s_on) (defBody s_on) (defScope s_on) .none kV17 dc17 pm17 an17 cd17 ct17), sl17⟩) (c17 : PySem.W.codeIn K cd17 "on" = true) (k17 : PySem.W.keepIn K (.ref f17) = true)
    {t0 : _} (g0 : PySem.W.nsIn K mainGlobals "MOST_OFFICES" = some (some (.int 10 t0)))
    {t1 : _} (g1 : PySem.W.nsIn K mainGlobals "MOST_PARTIES" = some (some (.int 6 t1)))
    {t2 : _} (g2 : PySem.W.nsIn K mainGlobals "MOST_SEATS" = some (some (.int 200 t2)))
    {t3 : _} (g3 : PySem.W.nsIn K mainGlobals "MOST_HATE_NUMBERS" = some (some (.int 40 t3)))
    {t4 : _} (g4 : PySem.W.nsIn K mainGlobals "REFUSED_HOUSE" = some (some (.int (-22) t4)))
    {t5 : _} (g5 : PySem.W.nsIn K mainGlobals "REFUSED_CHOICE" = some (some (.int (-2) t5)))
    (z0 : PySem.W.nsIn K mainGlobals "len" = some none)
    (z1 : PySem.W.nsIn K mainGlobals "range" = some none)
    (z2 : PySem.W.nsIn K mainGlobals "sum" = some none)
    : ∃ fd : FuncData, (∀ (s : Shared) (us : List Value), us.length = (["m", "s", "seats", "hates"] : List Str).length → BindsTo s fd ⟨us, []⟩ ((["m", "s", "seats", "hates"] : List Str).zip us)) ∧ ∀ base : Heap, K.In base → base.Ns mainGlobals mg → FnOk P w K mg base CX0 8 fa fd ["m", "s", "seats", "hates"] (sp_on K) := by
  have e := hfa.symm.trans (PySem.W.mg_of X G a17)
  cases e
  have F0 := fun_mk (st := s_offices_fit) l0 c0 k0
  have b0 := F0.binds (ps := ["m"]) fun _ _ _ _ _ _ us hl => match us, hl with | [_], _ => rfl
  have F1 := fun_mk (st := s_seats_fit) l1 c1 k1
  have b1 := F1.binds (ps := ["seats"]) fun _ _ _ _ _ _ us hl => match us, hl with | [_], _ => rfl
  have F2 := fun_mk (st := s_hates_fit) l2 c2 k2
  have b2 := F2.binds (ps := ["parties", "hates"]) fun _ _ _ _ _ _ us hl => match us, hl with | [_, _], _ => rfl
  have F3 := fun_mk (st := s_house_fits) l3 c3 k3
  have b3 := F3.binds (ps := ["m", "seats", "hates"]) fun _ _ _ _ _ _ us hl => match us, hl with | [_, _, _], _ => rfl
  have F4 := fun_mk (st := s_set_fits) l4 c4 k4
  have b4 := F4.binds (ps := ["s", "parties"]) fun _ _ _ _ _ _ us hl => match us, hl with | [_, _], _ => rfl
  have F5 := fun_mk (st := s_is_in) l5 c5 k5
  have b5 := F5.binds (ps := ["party", "s"]) fun _ _ _ _ _ _ us hl => match us, hl with | [_, _], _ => rfl
  have F6 := fun_mk (st := s_members_of) l6 c6 k6
  have b6 := F6.binds (ps := ["s", "parties"]) fun _ _ _ _ _ _ us hl => match us, hl with | [_, _], _ => rfl
  have F7 := fun_mk (st := s_has_most_seats) l7 c7 k7
  have b7 := F7.binds (ps := ["s", "seats"]) fun _ _ _ _ _ _ us hl => match us, hl with | [_, _], _ => rfl
  have F8 := fun_mk (st := s_has_hate_within) l8 c8 k8
  have b8 := F8.binds (ps := ["s", "hates"]) fun _ _ _ _ _ _ us hl => match us, hl with | [_, _], _ => rfl
  have F9 := fun_mk (st := s_may_govern) l9 c9 k9
  have b9 := F9.binds (ps := ["s", "seats", "hates"]) fun _ _ _ _ _ _ us hl => match us, hl with | [_, _, _], _ => rfl
  have F10 := fun_mk (st := s_whose_turn) l10 c10 k10
  have b10 := F10.binds (ps := ["members", "seats", "had"]) fun _ _ _ _ _ _ us hl => match us, hl with | [_, _, _], _ => rfl
  have F11 := fun_mk (st := s_offices_in) l11 c11 k11
  have b11 := F11.binds (ps := ["m", "s", "seats"]) fun _ _ _ _ _ _ us hl => match us, hl with | [_, _, _], _ => rfl
  have F12 := fun_mk (st := s_governing_sets) l12 c12 k12
  have b12 := F12.binds (ps := ["seats", "hates"]) fun _ _ _ _ _ _ us hl => match us, hl with | [_, _], _ => rfl
  have F13 := fun_mk (st := s_all_have_more) l13 c13 k13
  have b13 := F13.binds (ps := ["members", "there", "here"]) fun _ _ _ _ _ _ us hl => match us, hl with | [_, _, _], _ => rfl
  have F14 := fun_mk (st := s_is_left_for) l14 c14 k14
  have b14 := F14.binds (ps := ["m", "s", "other", "seats"]) fun _ _ _ _ _ _ us hl => match us, hl with | [_, _, _, _], _ => rfl
  have F15 := fun_mk (st := s_sets_left_for) l15 c15 k15
  have b15 := F15.binds (ps := ["m", "s", "seats", "hates"]) fun _ _ _ _ _ _ us hl => match us, hl with | [_, _, _, _], _ => rfl
  have F16 := fun_mk (st := s_way_on) l16 c16 k16
  have b16 := F16.binds (ps := ["m", "s", "seats", "hates"]) fun _ _ _ _ _ _ us hl => match us, hl with | [_, _, _, _], _ => rfl
  have F17 := fun_mk (st := s_on) l17 c17 k17
  have b17 := F17.binds (ps := ["m", "s", "seats", "hates"]) fun _ _ _ _ _ _ us hl => match us, hl with | [_, _, _, _], _ => rfl
  refine ⟨PySem.W.fnOf "on" "on" (defArgs s_on) (defBody s_on) (defScope s_on) .none kV17 dc17 pm17 an17 cd17 ct17, fun s us hu => match us, hu with | [_, _, _, _], _ => .of_eq rfl, fun base _ _ => ?_⟩
  have H_offices_fit : Has P w K mg base "offices_fit" 1 ["m"] sp_offices_fit := ⟨⟨f0, _, PySem.W.mg_of X G a0, k0, b0, ok_offices_fit F0 (PySem.W.mg_of X G g0)⟩⟩
  have H_seats_fit : Has P w K mg base "seats_fit" 1 ["seats"] (sp_seats_fit K) := ⟨⟨f1, _, PySem.W.mg_of X G a1, k1, b1, ok_seats_fit F1 (PySem.W.mg_of X G g1) (PySem.W.mg_of X G g2) (PySem.W.mg_none_of X G z0)⟩⟩
  have H_hates_fit : Has P w K mg base "hates_fit" 1 ["parties", "hates"] (sp_hates_fit K) := ⟨⟨f2, _, PySem.W.mg_of X G a2, k2, b2, ok_hates_fit F2 (PySem.W.mg_of X G g3) (PySem.W.mg_none_of X G z0) (PySem.W.mg_none_of X G z1)⟩⟩
  have H_house_fits : Has P w K mg base "house_fits" 2 ["m", "seats", "hates"] (sp_house_fits K) := ⟨⟨f3, _, PySem.W.mg_of X G a3, k3, b3, ok_house_fits F3 H_offices_fit H_seats_fit H_hates_fit (PySem.W.mg_none_of X G z0)⟩⟩
  have H_set_fits : Has P w K mg base "set_fits" 1 ["s", "parties"] sp_set_fits := ⟨⟨f4, _, PySem.W.mg_of X G a4, k4, b4, ok_set_fits F4 ⟩⟩
  have H_is_in : Has P w K mg base "is_in" 1 ["party", "s"] sp_is_in := ⟨⟨f5, _, PySem.W.mg_of X G a5, k5, b5, ok_is_in F5 ⟩⟩
  have H_members_of : Has P w K mg base "members_of" 2 ["s", "parties"] sp_members_of := ⟨⟨f6, _, PySem.W.mg_of X G a6, k6, b6, ok_members_of F6 H_is_in (PySem.W.mg_none_of X G z1)⟩⟩
  have H_has_most_seats : Has P w K mg base "has_most_seats" 3 ["s", "seats"] (sp_has_most_seats K) := ⟨⟨f7, _, PySem.W.mg_of X G a7, k7, b7, ok_has_most_seats F7 H_members_of (PySem.W.mg_none_of X G z0) (PySem.W.mg_none_of X G z2)⟩⟩
  have H_has_hate_within : Has P w K mg base "has_hate_within" 2 ["s", "hates"] (sp_has_hate_within K) := ⟨⟨f8, _, PySem.W.mg_of X G a8, k8, b8, ok_has_hate_within F8 H_is_in (PySem.W.mg_none_of X G z0) (PySem.W.mg_none_of X G z1)⟩⟩
  have H_may_govern : Has P w K mg base "may_govern" 4 ["s", "seats", "hates"] (sp_may_govern K) := ⟨⟨f9, _, PySem.W.mg_of X G a9, k9, b9, ok_may_govern F9 H_has_most_seats H_has_hate_within⟩⟩
  have H_whose_turn : Has P w K mg base "whose_turn" 1 ["members", "seats", "had"] (sp_whose_turn K) := ⟨⟨f10, _, PySem.W.mg_of X G a10, k10, b10, ok_whose_turn F10 ⟩⟩
  have H_offices_in : Has P w K mg base "offices_in" 3 ["m", "s", "seats"] (sp_offices_in K) := ⟨⟨f11, _, PySem.W.mg_of X G a11, k11, b11, ok_offices_in F11 H_members_of H_whose_turn (PySem.W.mg_of X G g1) (PySem.W.mg_none_of X G z0) (PySem.W.mg_none_of X G z1)⟩⟩
  have H_governing_sets : Has P w K mg base "governing_sets" 5 ["seats", "hates"] (sp_governing_sets K) := ⟨⟨f12, _, PySem.W.mg_of X G a12, k12, b12, ok_governing_sets F12 H_may_govern (PySem.W.mg_none_of X G z0) (PySem.W.mg_none_of X G z1)⟩⟩
  have H_all_have_more : Has P w K mg base "all_have_more" 1 ["members", "there", "here"] (sp_all_have_more K) := ⟨⟨f13, _, PySem.W.mg_of X G a13, k13, b13, ok_all_have_more F13 ⟩⟩
  have H_is_left_for : Has P w K mg base "is_left_for" 4 ["m", "s", "other", "seats"] (sp_is_left_for K) := ⟨⟨f14, _, PySem.W.mg_of X G a14, k14, b14, ok_is_left_for F14 H_offices_in H_members_of H_all_have_more (PySem.W.mg_none_of X G z0)⟩⟩
  have H_sets_left_for : Has P w K mg base "sets_left_for" 6 ["m", "s", "seats", "hates"] (sp_sets_left_for K) := ⟨⟨f15, _, PySem.W.mg_of X G a15, k15, b15, ok_sets_left_for F15 H_governing_sets H_is_left_for⟩⟩
  have H_way_on : Has P w K mg base "way_on" 7 ["m", "s", "seats", "hates"] (sp_way_on K) := ⟨⟨f16, _, PySem.W.mg_of X G a16, k16, b16, ok_way_on F16 H_sets_left_for⟩⟩
  exact ok_on F17 H_house_fits H_set_fits H_way_on (PySem.W.mg_of X G g4) (PySem.W.mg_of X G g5) (PySem.W.mg_none_of X G z0)
end Lv
namespace Lv
open PySem PySem.Spec PyProof.Rows L2
open PySem.W (Codec)
theorem nats_back {l : List Int} (h : ∀ x ∈ l, 0 ≤ x) : l.map V.int = NL (l.map Int.toNat) := by
  unfold NL
  rw [List.map_map]
  refine List.map_congr_left fun x hx => ?_
  show V.int x = V.int ((x.toNat : Nat) : Int)
  rw [Int.toNat_of_nonneg (h x hx)]
theorem inInt_pos {hi z : Int} (h : Codec.inInt (Int.ofNat 0) hi z = true) : 0 ≤ z := by
  unfold Codec.inInt at h
  rw [Bool.and_eq_true, decide_eq_true_eq] at h
  exact h.1
theorem all_pos {hi : Int} {l : List Int} (h : l.all (Codec.inInt (Int.ofNat 0) hi) = true) : ∀ x ∈ l, 0 ≤ x := fun x hx => by
  rw [List.all_eq_true] at h
  exact inInt_pos (h x hx)
theorem on_f (m s : Int) (a k : List Int) : PyKs468.on m s a k = onZ m.toNat s.toNat (a.map Int.toNat) (k.map Int.toNat) := on_is m.toNat s.toNat (a.map Int.toNat) (k.map Int.toNat)
theorem asked_on (K : PySem.W.Frag) (H : Hp) (xs : List V) (a : Codec.denoteAll PySem.Challenge.rw_leavefor_s05_on.args) (_ : OnlyF H) (hwi : Codec.withinAll PySem.Challenge.rw_leavefor_s05_on.args a = true) (_ : Codec.app PySem.Challenge.rw_leavefor_s05_on.args PySem.Challenge.rw_leavefor_s05_on.asked a = true) (hx : DwAll K H xs (Codec.encAll PySem.Challenge.rw_leavefor_s05_on.args a)) :
    sp_on K xs H (fun v H' => Dw K H' v (PySem.Challenge.rw_leavefor_s05_on.ret.enc (Codec.app PySem.Challenge.rw_leavefor_s05_on.args PySem.Challenge.rw_leavefor_s05_on.f a))) fun _ _ _ => False := by
  obtain ⟨m, s, seats, hates, u⟩ := a
  have q : (Codec.inInt (Int.ofNat 0) (Int.ofNat 4294967295) m && (Codec.inInt (Int.ofNat 0) (Int.ofNat 4294967295) s && ((Codec.inLen 0 10 seats && seats.all (Codec.inInt (Int.ofNat 0) (Int.ofNat 4294967295))) && ((Codec.inLen 0 44 hates && hates.all (Codec.inInt (Int.ofNat 0) (Int.ofNat 4294967295))) && true)))) = true := hwi
  rw [Bool.and_eq_true, Bool.and_eq_true, Bool.and_eq_true, Bool.and_eq_true, Bool.and_eq_true, Bool.and_eq_true] at q
  obtain ⟨q1, q2, ⟨_, q3⟩, ⟨_, q4⟩, _⟩ := q
  have e1 := Int.toNat_of_nonneg (inInt_pos q1)
  have e2 := Int.toNat_of_nonneg (inInt_pos q2)
  cases hx with
  | cons h1 h2 =>
    cases h2 with
    | cons h3 h4 =>
      cases h4 with
      | cons h5 h6 =>
        cases h6 with
        | cons h7 h8 =>
          cases h8
          cases h1
          cases h3
          cases h5 with
          | @lst p5 _ _ hs5 ha5 =>
            cases h7 with
            | @lst p7 _ _ hs7 ha7 =>
              have e5 := L2.ints_dw seats _ ha5
              have e7 := L2.ints_dw hates _ ha7
              subst e5 e7
              refine ⟨m.toNat, s.toNat, p5, seats.map Int.toNat, p7, hates.map Int.toNat, ?_, ?_, ?_, fun p H' hp => ?_⟩
              · rw [e1, e2]
              · rw [← nats_back (all_pos q3)]
                exact hs5
              · rw [← nats_back (all_pos q4)]
                exact hs7
              · rw [← on_f] at hp
                exact .lst (L2.SqL.of hp) (L2.dw_ints _)
end Lv
open PySem PySem.W PyProof.Rows
set_option maxRecDepth 100000 in
set_option maxHeartbeats 8000000 in
theorem PySem.Challenge.cw_leavefor_s05_on_holds : PySem.Challenge.rw_leavefor_s05_on.Holds := by
  w_on; k_headS; (case hw => exact ⟨[.int 0, .int 0, .list [], .list []], by decide +kernel, by decide +kernel⟩)
  k_fillS
  refine L2.walk_specK (r := PySem.Challenge.rw_leavefor_s05_on) (k := 8) (CX := L2.CX0) (ps := ["m", "s", "seats", "hates"]) (sp := Lv.sp_on) (by decide +kernel) rfl rfl ⟨rfl, by decide, by decide⟩ (fun w h Y => PySem.W.kIn_of Y) ?F ?S (fun _ _ _ _ z => z)
  case F =>
    intro w mg fa h Y KX G hmg
    refine' Lv.all_mk KX G hmg ?qa0 ?ql0 ?qc0 ?qk0 ?qa1 ?ql1 ?qc1 ?qk1 ?qa2 ?ql2 ?qc2 ?qk2 ?qa3 ?ql3 ?qc3 ?qk3 ?qa4 ?ql4 ?qc4 ?qk4 ?qa5 ?ql5 ?qc5 ?qk5 ?qa6 ?ql6 ?qc6 ?qk6 ?qa7 ?ql7 ?qc7 ?qk7 ?qa8 ?ql8 ?qc8 ?qk8 ?qa9 ?ql9 ?qc9 ?qk9 ?qa10 ?ql10 ?qc10 ?qk10 ?qa11 ?ql11 ?qc11 ?qk11 ?qa12 ?ql12 ?qc12 ?qk12 ?qa13 ?ql13 ?qc13 ?qk13 ?qa14 ?ql14 ?qc14 ?qk14 ?qa15 ?ql15 ?qc15 ?qk15 ?qa16 ?ql16 ?qc16 ?qk16 ?qa17 ?ql17 ?qc17 ?qk17 ?qg0 ?qg1 ?qg2 ?qg3 ?qg4 ?qg5 ?qz0 ?qz1 ?qz2
    (case qa0 => k_is)
    (case ql0 => k_is)
    (case qc0 => k_is)
    (case qk0 => k_is)
    (case qa1 => k_is)
    (case ql1 => k_is)
    (case qc1 => k_is)
    (case qk1 => k_is)
    (case qa2 => k_is)
    (case ql2 => k_is)
    (case qc2 => k_is)
    (case qk2 => k_is)
    (case qa3 => k_is)
    (case ql3 => k_is)
    (case qc3 => k_is)
    (case qk3 => k_is)
    (case qa4 => k_is)
    (case ql4 => k_is)
    (case qc4 => k_is)
    (case qk4 => k_is)
    (case qa5 => k_is)
    (case ql5 => k_is)
    (case qc5 => k_is)
    (case qk5 => k_is)
    (case qa6 => k_is)
    (case ql6 => k_is)
    (case qc6 => k_is)
    (case qk6 => k_is)
    (case qa7 => k_is)
    (case ql7 => k_is)
    (case qc7 => k_is)
    (case qk7 => k_is)
    (case qa8 => k_is)
    (case ql8 => k_is)
    (case qc8 => k_is)
    (case qk8 => k_is)
    (case qa9 => k_is)
    (case ql9 => k_is)
    (case qc9 => k_is)
    (case qk9 => k_is)
    (case qa10 => k_is)
    (case ql10 => k_is)
    (case qc10 => k_is)
    (case qk10 => k_is)
    (case qa11 => k_is)
    (case ql11 => k_is)
    (case qc11 => k_is)
    (case qk11 => k_is)
    (case qa12 => k_is)
    (case ql12 => k_is)
    (case qc12 => k_is)
    (case qk12 => k_is)
    (case qa13 => k_is)
    (case ql13 => k_is)
    (case qc13 => k_is)
    (case qk13 => k_is)
    (case qa14 => k_is)
    (case ql14 => k_is)
    (case qc14 => k_is)
    (case qk14 => k_is)
    (case qa15 => k_is)
    (case ql15 => k_is)
    (case qc15 => k_is)
    (case qk15 => k_is)
    (case qa16 => k_is)
    (case ql16 => k_is)
    (case qc16 => k_is)
    (case qk16 => k_is)
    (case qa17 => k_is)
    (case ql17 => k_is)
    (case qc17 => k_is)
    (case qk17 => k_is)
    (case qg0 => k_is)
    (case qg1 => k_is)
    (case qg2 => k_is)
    (case qg3 => k_is)
    (case qg4 => k_is)
    (case qg5 => k_is)
    (case qz0 => k_is)
    (case qz1 => k_is)
    (case qz2 => k_is)
  case S =>
    exact Lv.asked_on

