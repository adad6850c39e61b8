import PyProof.Rows.All
import Wide.All
import OpenK.AllK
import Wide.FinOn
import Open.SpecLaws
import KE.OsGo
import HandS.ForSpec
import HandS.Evl
import HandS.Conv
import HandS.SetFor
import HandS.Dict
import HandS.Comp
import HandS.Iter
import HandS.Zip
import HandS.TupAny
import KE.KDictDisplayH
import PySem.Challenge.RW_turns_s02_plain
set_option Elab.async false
set_option linter.all false
set_option maxRecDepth 100000
set_option maxHeartbeats 2000000
/-! The mathematics of turns, apart from Python: what the program's loops make is what the specification's functions tell. -/
namespace Tm
open Ks466
/-! ### numbers as ints -/
def zi (l : List Nat) : List Int := l.map fun (k : Nat) => (k : Int)
theorem ints_zi (l : List Nat) : Ks466Neutral.ints l = zi l := rfl
theorem zi_length (l : List Nat) : (zi l).length = l.length := by unfold zi; rw [List.length_map]
theorem zi_get {l : List Nat} {i k : Nat} (h : l[i]? = some k) : (zi l)[i]? = some (k : Int) := by unfold zi; rw [List.getElem?_map, h]; rfl
theorem zi_append (l r : List Nat) : zi (l ++ r) = zi l ++ zi r := by unfold zi; rw [List.map_append]
theorem nats_nonneg : ∀ {l : List Int}, (∀ x ∈ l, 0 ≤ x) → zi (Ks466Neutral.nats l) = l
  | [], _ => rfl
  | x :: r, h => by
    have ih := nats_nonneg (l := r) fun y hy => h y (List.mem_cons_of_mem _ hy)
    have h0 := h x List.mem_cons_self
    show ((x.toNat : Nat) : Int) :: zi (Ks466Neutral.nats r) = x :: r
    rw [ih, Int.toNat_of_nonneg h0]
/-! ### whether all is as told -/
def inside (lo hi : Int) (l : List Int) : Bool := l.all fun x => !(decide (x < lo) || decide (x > hi))
def told (n : Int) (s w : List Int) : Bool := !decide (n > 5) && !(decide ((s.length : Int) < 1) || decide ((s.length : Int) > 4)) && !decide ((w.length : Int) ≠ n * (s.length : Int)) && (inside 1 200 s && inside 0 50 w)
def house (n : Int) (s w : List Int) : House := { seats := Ks466Neutral.nats s, offices := n.toNat, worth := cut n.toNat (Ks466Neutral.nats s).length (Ks466Neutral.nats w) }
theorem cut_length (n : Nat) : ∀ (k : Nat) (l : List Nat), (cut n k l).length = k
  | 0, _ => rfl
  | k + 1, l => by
    show (cut n k (l.drop n)).length + 1 = k + 1
    rw [cut_length]
theorem cut_getD (n : Nat) : ∀ (k : Nat) (l : List Nat) (i : Nat), i < k → (cut n k l).getD i [] = (l.drop (i * n)).take n
  | 0, _, i, h => absurd h (Nat.not_lt_zero i)
  | k + 1, l, 0, _ => by
    show l.take n = _
    rw [Nat.zero_mul, List.drop_zero]
  | k + 1, l, i + 1, h => by
    show (cut n k (l.drop n)).getD i [] = _
    rw [cut_getD n k (l.drop n) i (Nat.lt_of_succ_lt_succ h), List.drop_drop, Nat.succ_mul, Nat.add_comm]
/-- every row has n, and all is said of the rows that is said of the whole -/
theorem cut_all (n : Nat) (p : Nat → Bool) : ∀ (k : Nat) (l : List Nat), l.length = n * k → ((cut n k l).all fun r => r.length == n && r.all p) = l.all p
  | 0, l, h => by
    have e : l = [] := List.eq_nil_of_length_eq_zero (by rw [h, Nat.mul_zero])
    subst e
    rfl
  | k + 1, l, h => by
    have h1 : n ≤ l.length := by rw [h, Nat.mul_succ]; exact Nat.le_add_left _ _
    have h2 : (l.drop n).length = n * k := by rw [List.length_drop, h, Nat.mul_succ]; omega
    have h3 : (l.take n).length = n := by rw [List.length_take]; omega
    show (((l.take n).length == n && (l.take n).all p) && (cut n k (l.drop n)).all fun r => r.length == n && r.all p) = l.all p
    rw [cut_all n p k (l.drop n) h2, h3, beq_self_eq_true, Bool.true_and, ← List.all_append, List.take_append_drop]
theorem inside_nats {lo hi : Nat} : ∀ {l : List Int}, (∀ x ∈ l, 0 ≤ x) → inside (lo : Int) (hi : Int) l = (Ks466Neutral.nats l).all fun v => decide (lo ≤ v) && decide (v ≤ hi)
  | [], _ => rfl
  | x :: r, h => by
    have ih := inside_nats (lo := lo) (hi := hi) (l := r) fun y hy => h y (List.mem_cons_of_mem _ hy)
    have h0 := h x List.mem_cons_self
    show (!(decide (x < (lo : Int)) || decide (x > (hi : Int))) && inside lo hi r) = ((decide (lo ≤ x.toNat) && decide (x.toNat ≤ hi)) && (Ks466Neutral.nats r).all fun v => decide (lo ≤ v) && decide (v ≤ hi))
    rw [ih]
    congr 1
    rw [Bool.eq_iff_iff]
    simp only [Bool.not_eq_true', Bool.or_eq_false_iff, decide_eq_false_iff_not, Bool.and_eq_true, decide_eq_true_eq]
    omega
theorem nats_length (l : List Int) : (Ks466Neutral.nats l).length = l.length := by unfold Ks466Neutral.nats; rw [List.length_map]
theorem given_told {n : Int} {s w : List Int} (hn : 0 ≤ n) (hs : ∀ x ∈ s, 0 ≤ x) (hw : ∀ x ∈ w, 0 ≤ x) (f : House → Ans) :
    given n.toNat (Ks466Neutral.nats s) (Ks466Neutral.nats w) f = if told n s w = true then f (house n s w) else no (-22) := by
  unfold given
  rw [nats_length, nats_length]
  have es := inside_nats (lo := 1) (hi := 200) hs
  have ew := inside_nats (lo := 0) (hi := 50) hw
  have ew' : inside 0 50 w = (Ks466Neutral.nats w).all fun v => decide (v ≤ 50) := by
    refine ew.trans ?_
    congr 1
  by_cases c : OFFICES < n.toNat ∨ PARTIES < s.length ∨ w.length ≠ n.toNat * s.length
  · rw [if_pos c]
    have t : ¬ told n s w = true := by
      intro t
      unfold told at t
      simp only [Bool.and_eq_true, Bool.not_eq_true', Bool.or_eq_false_iff, decide_eq_false_iff_not] at t
      obtain ⟨⟨⟨t1, t2, t3⟩, t4⟩, _⟩ := t
      have t5 : (w.length : Int) = n * (s.length : Int) := by
        rcases Decidable.em ((w.length : Int) = n * (s.length : Int)) with q | q
        · exact q
        · exact absurd q t4
      have t6 : w.length = n.toNat * s.length := by
        have q : ((n.toNat * s.length : Nat) : Int) = n * (s.length : Int) := by rw [Int.natCast_mul, Int.toNat_of_nonneg hn]
        omega
      unfold OFFICES PARTIES at c
      rcases c with c | c | c
      · omega
      · omega
      · exact c t6
    rw [if_neg t]
  · rw [if_neg c]
    have c1 : n.toNat ≤ 5 := by unfold OFFICES at c; omega
    have c2 : s.length ≤ 4 := by unfold PARTIES at c; omega
    have c3 : w.length = n.toNat * s.length := by
      rcases Decidable.em (w.length = n.toNat * s.length) with q | q
      · exact q
      · exact absurd (Or.inr (Or.inr q)) c
    show (if okHouse { seats := Ks466Neutral.nats s, offices := n.toNat, worth := cut n.toNat s.length (Ks466Neutral.nats w) } = true then f { seats := Ks466Neutral.nats s, offices := n.toNat, worth := cut n.toNat s.length (Ks466Neutral.nats w) } else no (-22)) = _
    have eh : house n s w = { seats := Ks466Neutral.nats s, offices := n.toNat, worth := cut n.toNat s.length (Ks466Neutral.nats w) } := by unfold house; rw [nats_length]
    rw [← eh]
    have ek : okHouse (house n s w) = told n s w := by
      rw [eh]
      unfold okHouse told
      have a1 := cut_all n.toNat (fun v => decide (v ≤ WORTH)) s.length (Ks466Neutral.nats w) (by rw [nats_length]; exact c3)
      have c4 : (w.length : Int) = n * (s.length : Int) := by
        have q : ((n.toNat * s.length : Nat) : Int) = n * (s.length : Int) := by rw [Int.natCast_mul, Int.toNat_of_nonneg hn]
        omega
      show (decide (1 ≤ (Ks466Neutral.nats s).length) && decide ((Ks466Neutral.nats s).length ≤ PARTIES) && decide (n.toNat ≤ OFFICES) && (cut n.toNat s.length (Ks466Neutral.nats w)).length == (Ks466Neutral.nats s).length && ((Ks466Neutral.nats s).all fun q => decide (1 ≤ q) && decide (q ≤ SEATS)) && ((cut n.toNat s.length (Ks466Neutral.nats w)).all fun r => r.length == n.toNat && r.all fun v => decide (v ≤ WORTH))) = _
      rw [a1, cut_length, nats_length, beq_self_eq_true]
      have d1 : decide ((w.length : Int) ≠ n * (s.length : Int)) = false := by simp [c4]
      have d2 : decide (n > 5) = false := decide_eq_false (by omega)
      have d3 : decide (n.toNat ≤ OFFICES) = true := decide_eq_true (by unfold OFFICES; omega)
      have d4 : decide (s.length ≤ PARTIES) = true := decide_eq_true (by unfold PARTIES; omega)
      have d5 : decide ((s.length : Int) > 4) = false := decide_eq_false (by omega)
      have d6 : (!decide ((s.length : Int) < 1)) = decide (1 ≤ s.length) := by
        rw [Bool.eq_iff_iff]
        simp only [Bool.not_eq_true', decide_eq_false_iff_not, decide_eq_true_eq]
        omega
      rw [d1, d2, d3, d4, d5, Bool.or_false, d6]
      simp only [Bool.not_false, Bool.and_true, Bool.true_and]
      rw [Bool.and_assoc]
      congr 1
      have es' : inside 1 200 s = (Ks466Neutral.nats s).all fun v => decide (1 ≤ v) && decide (v ≤ 200) := es
      rw [es', ew']
      rfl
    rw [ek]
/-! ### what told gives -/
structure Ok (n : Int) (s w : List Int) (N : Nat) (S W : List Nat) : Prop where
  en : n = (N : Int)
  es : s = zi S
  ew : w = zi W
  n5 : N ≤ 5
  p1 : 1 ≤ S.length
  p4 : S.length ≤ 4
  wl : W.length = N * S.length
  sb : ∀ x ∈ S, x ≤ 200
  eh : house n s w = { seats := S, offices := N, worth := cut N S.length W }
theorem ok_of {n : Int} {s w : List Int} (hn : 0 ≤ n) (hs : ∀ x ∈ s, 0 ≤ x) (hw : ∀ x ∈ w, 0 ≤ x) (t : told n s w = true) : ∃ (N : Nat) (S W : List Nat), Ok n s w N S W := by
  unfold told at t
  simp only [Bool.and_eq_true, Bool.not_eq_true', Bool.or_eq_false_iff, decide_eq_false_iff_not] at t
  obtain ⟨⟨⟨t1, t2, t3⟩, t4⟩, t7, t8⟩ := t
  have t5 : (w.length : Int) = n * (s.length : Int) := by
    rcases Decidable.em ((w.length : Int) = n * (s.length : Int)) with q | q
    · exact q
    · exact absurd q t4
  have es := inside_nats (lo := 1) (hi := 200) hs
  refine ⟨n.toNat, Ks466Neutral.nats s, Ks466Neutral.nats w, (Int.toNat_of_nonneg hn).symm, (nats_nonneg hs).symm, (nats_nonneg hw).symm, by omega, by rw [nats_length]; omega, by rw [nats_length]; omega, ?_, ?_, rfl⟩
  · rw [nats_length, nats_length]
    have q : ((n.toNat * s.length : Nat) : Int) = n * (s.length : Int) := by rw [Int.natCast_mul, Int.toNat_of_nonneg hn]
    omega
  · intro x hx
    have e2 : (Ks466Neutral.nats s).all (fun v => decide (1 ≤ v) && decide (v ≤ 200)) = true := es.symm.trans t7
    have q := List.all_eq_true.mp e2 x hx
    simp only [Bool.and_eq_true, decide_eq_true_eq] at q
    exact q.2
/-! ### whose turn it is -/
def pick (h : House) (l : List Nat) (b i : Nat) : Nat := if seat h b * (had l i + 1) < seat h i * (had l b + 1) then i else b
def best (h : House) (l : List Nat) (k : Nat) : Nat := (List.range k).foldl (pick h l) 0
theorem best_succ (h : House) (l : List Nat) (k : Nat) : best h l (k + 1) = pick h l (best h l k) k := by
  unfold best
  rw [List.range_succ, List.foldl_append]
  rfl
theorem best_one (h : House) (l : List Nat) : best h l 1 = 0 := by
  rw [best_succ]
  show pick h l 0 0 = 0
  unfold pick
  rw [if_neg (Nat.lt_irrefl _)]
theorem turn_best (h : House) (l : List Nat) : turn h l = best h l h.seats.length := rfl
theorem best_lt (h : House) (l : List Nat) : ∀ k, best h l (k + 1) < k + 1
  | 0 => by rw [best_one]; exact Nat.zero_lt_one
  | k + 1 => by
    rw [best_succ]
    have ih := best_lt h l k
    unfold pick
    split
    · exact Nat.lt_succ_self _
    · omega
theorem turn_lt (h : House) (l : List Nat) (hp : 1 ≤ h.seats.length) : turn h l < h.seats.length := by
  rw [turn_best]
  have q := best_lt h l (h.seats.length - 1)
  have e : h.seats.length - 1 + 1 = h.seats.length := by omega
  rw [e] at q
  exact q
theorem turns_succ (h : House) : ∀ (k : Nat) (l : List Nat), turns h (k + 1) l = turns h k l ++ [turn h (turns h k l)]
  | 0, _ => rfl
  | k + 1, l => by
    show turns h (k + 1) (l ++ [turn h l]) = _
    rw [turns_succ h k]
    rfl
theorem turns_length (h : House) : ∀ (k : Nat) (l : List Nat), (turns h k l).length = l.length + k
  | 0, _ => rfl
  | k + 1, l => by
    rw [turns_succ, List.length_append, turns_length h k]
    rfl
theorem turns_lt (h : House) (hp : 1 ≤ h.seats.length) : ∀ (k : Nat) (x : Nat), x ∈ turns h k [] → x < h.seats.length
  | 0, x, hx => by cases hx
  | k + 1, x, hx => by
    rw [turns_succ] at hx
    rcases List.mem_append.mp hx with q | q
    · exact turns_lt h hp k x q
    · rw [List.mem_singleton.mp q]
      exact turn_lt h _ hp
theorem order_length (h : House) : (order h).length = h.offices := by
  unfold order
  rw [turns_length]
  exact Nat.zero_add _
theorem had_app (l : List Nat) (t i : Nat) : had (l ++ [t]) i = had l i + if t = i then 1 else 0 := by
  unfold had
  rw [List.filter_append, List.length_append]
  congr 1
  by_cases c : t = i
  · subst c
    simp
  · have c' : (t == i) = false := by simpa using c
    simp [c, c']
theorem had_le (l : List Nat) (i : Nat) : had l i ≤ l.length := List.length_filter_le _ _
/-- what each of m parties has had -/
def hads (m : Nat) (l : List Nat) : List Nat := (List.range m).map (had l)
theorem hads_length (m : Nat) (l : List Nat) : (hads m l).length = m := by unfold hads; rw [List.length_map, List.length_range]
theorem hads_get {m i : Nat} (l : List Nat) (h : i < m) : (hads m l)[i]? = some (had l i) := by
  unfold hads
  rw [List.getElem?_map, List.getElem?_range h]
  rfl
theorem hads_nil (m : Nat) : hads m [] = List.replicate m 0 := by
  unfold hads
  apply List.ext_getElem?
  intro i
  by_cases c : i < m
  · rw [List.getElem?_map, List.getElem?_range c, List.getElem?_replicate, if_pos c]
    rfl
  · rw [List.getElem?_map, List.getElem?_eq_none (by rw [List.length_range]; omega), List.getElem?_replicate, if_neg c]
    rfl
theorem hads_app (m : Nat) (l : List Nat) (t : Nat) : hads m (l ++ [t]) = (hads m l).set t (had l t + 1) := by
  apply List.ext_getElem?
  intro i
  by_cases c : i < m
  · rw [hads_get _ c, List.getElem?_set]
    by_cases e : t = i
    · subst e
      rw [if_pos rfl, if_pos (by rw [hads_length]; exact c), had_app, if_pos rfl]
    · rw [if_neg e, hads_get _ c, had_app, if_neg e]
      rfl
  · rw [List.getElem?_eq_none (by rw [hads_length]; omega), List.getElem?_eq_none (by rw [List.length_set, hads_length]; omega)]
theorem seat_get {h : House} {i : Nat} (c : i < h.seats.length) : h.seats[i]? = some (seat h i) := by
  unfold seat
  rw [List.getD_eq_getElem?_getD, List.getElem?_eq_getElem c]
  rfl
theorem seat_le {h : House} (hb : ∀ x ∈ h.seats, x ≤ 200) {i : Nat} (c : i < h.seats.length) : seat h i ≤ 200 := hb _ (List.mem_of_getElem? (seat_get c))
/-! ### the answers -/
theorem order_is {n : Int} {s w : List Int} (hn : 0 ≤ n) (hs : ∀ x ∈ s, 0 ≤ x) (hw : ∀ x ∈ w, 0 ≤ x) :
    PyKs466.order n s w = if told n s w = true then n :: zi (order (house n s w)) else [-22] := by
  show Ks466Neutral.out (given n.toNat (Ks466Neutral.nats s) (Ks466Neutral.nats w) fun h => rows (order h)) = _
  rw [given_told hn hs hw]
  split
  · show ((order (house n s w)).length : Int) :: zi (order (house n s w)) = _
    rw [order_length]
    show ((n.toNat : Nat) : Int) :: _ = _
    rw [Int.toNat_of_nonneg hn]
  · rfl
end Tm
/-! ### who takes which office plainly -/
namespace Tm
open Ks466
def more (h : House) (i : Nat) (b o : Nat) : Nat := if worth h i b < worth h i o then o else b
/-- the first of those left that are worth most; what the loop holds behind k of them -/
def top1 (h : House) (i : Nat) (F : List Nat) (k : Nat) : Nat := (F.take k).foldl (more h i) (F.headD 0)
theorem top1_zero (h : House) (i : Nat) (F : List Nat) : top1 h i F 0 = F.headD 0 := rfl
theorem top1_succ {h : House} {i : Nat} {F : List Nat} {k o : Nat} (e : F[k]? = some o) : top1 h i F (k + 1) = more h i (top1 h i F k) o := by
  unfold top1
  rw [List.take_add_one, e, List.foldl_append]
  rfl
theorem more_self (h : House) (i a : Nat) : more h i a a = a := by
  unfold more
  rw [if_neg (Nat.lt_irrefl _)]
theorem dear_top1 {h : House} {i : Nat} {F : List Nat} (hF : F ≠ []) : dear h i F = some (top1 h i F F.length) := by
  cases F with
  | nil => exact absurd rfl hF
  | cons a l =>
    unfold top1
    rw [List.take_length]
    show some (l.foldl (more h i) a) = some (l.foldl (more h i) (more h i a a))
    rw [more_self]
theorem top1_mem {h : House} {i : Nat} {F : List Nat} (hF : F ≠ []) : ∀ k, top1 h i F k ∈ F
  | 0 => by
    cases F with
    | nil => exact absurd rfl hF
    | cons a l => exact List.mem_cons_self
  | k + 1 => by
    have ih := top1_mem (h := h) (i := i) hF k
    cases e : F[k]? with
    | none =>
      have q : top1 h i F (k + 1) = top1 h i F k := by
        unfold top1
        rw [List.take_add_one, e]
        show (F.take k ++ []).foldl _ _ = _
        rw [List.append_nil]
      rw [q]
      exact ih
    | some o =>
      rw [top1_succ e]
      unfold more
      split
      · exact List.mem_of_getElem? e
      · exact ih
/-- a list without one of its own, if none stands there twice -/
theorem filter_ne_self : ∀ {F : List Nat} {o : Nat}, o ∉ F → (F.filter fun x => x != o) = F
  | [], _, _ => rfl
  | a :: l, o, h => by
    have h1 : a ≠ o := fun e => h (by rw [e]; exact List.mem_cons_self)
    have h2 : o ∉ l := fun e => h (List.mem_cons_of_mem _ e)
    have h3 : (a != o) = true := by simpa using h1
    rw [List.filter_cons, if_pos h3, filter_ne_self h2]
theorem erase_filter : ∀ {F : List Nat} {o : Nat} {j : Nat}, F.Nodup → F[j]? = some o → F.eraseIdx j = F.filter fun x => x != o
  | [], o, j, _, h => by simp at h
  | a :: l, o, 0, hn, h => by
    have e : a = o := Option.some.inj h
    subst e
    have h2 : a ∉ l := (List.nodup_cons.mp hn).1
    have h3 : ¬ (a != a) = true := by simp
    rw [List.filter_cons, if_neg h3, filter_ne_self h2]
    rfl
  | a :: l, o, j + 1, hn, h => by
    have h' : l[j]? = some o := h
    have h2 : a ≠ o := fun e => (List.nodup_cons.mp hn).1 (by rw [e]; exact List.mem_of_getElem? h')
    have h3 : (a != o) = true := by simpa using h2
    rw [List.filter_cons, if_pos h3, ← erase_filter (List.nodup_cons.mp hn).2 h']
    rfl
theorem filter_less {F : List Nat} {o : Nat} (hn : F.Nodup) (h : o ∈ F) : (F.filter fun x => x != o).length + 1 = F.length := by
  obtain ⟨j, hj⟩ := List.getElem?_of_mem h
  rw [← erase_filter hn hj, List.length_eraseIdx]
  have q := (List.getElem?_eq_some_iff.mp hj).1
  rw [if_pos q]
  omega
theorem zi_nodup {F : List Nat} (hn : F.Nodup) {j m o : Nat} (hj : F[j]? = some o) (hm : m < j) : (zi F)[m]? ≠ some (o : Int) := by
  intro e
  unfold zi at e
  rw [List.getElem?_map] at e
  cases q : F[m]? with
  | none =>
    rw [q] at e
    cases e
  | some k =>
    rw [q] at e
    have e1 : ((k : Nat) : Int) = (o : Int) := Option.some.inj e
    have e2 : k = o := by omega
    subst e2
    have l1 := (List.getElem?_eq_some_iff.mp q).1
    have l2 := (List.getElem?_eq_some_iff.mp hj).1
    have e3 : F[m]'l1 = F[j]'l2 := by
      rw [(List.getElem?_eq_some_iff.mp q).2, (List.getElem?_eq_some_iff.mp hj).2]
    exact List.pairwise_iff_getElem.mp hn m j l1 l2 hm e3
theorem zi_erase : ∀ (F : List Nat) (j : Nat), (zi F).eraseIdx j = zi (F.eraseIdx j)
  | [], _ => rfl
  | _ :: _, 0 => rfl
  | a :: l, j + 1 => by
    show (a : Int) :: (zi l).eraseIdx j = (a : Int) :: zi (l.eraseIdx j)
    rw [zi_erase l j]
/-- one turn of the taking -/
theorem plain_cons {h : House} {i : Nat} {r F : List Nat} (hF : F ≠ []) : Ks466.plain h (i :: r) F = (i, top1 h i F F.length) :: Ks466.plain h r (F.filter fun x => x != top1 h i F F.length) := by
  show (match dear h i F with
    | none => []
    | some o => (i, o) :: Ks466.plain h r (F.filter fun x => x != o)) = _
  rw [dear_top1 hF]
theorem plain_length {h : House} : ∀ {r F : List Nat}, F.Nodup → r.length ≤ F.length → (Ks466.plain h r F).length = r.length
  | [], _, _, _ => rfl
  | i :: r, F, hn, hl => by
    have hF : F ≠ [] := fun e => by
      rw [e] at hl
      exact absurd hl (Nat.not_succ_le_zero _)
    have m := top1_mem (h := h) (i := i) hF F.length
    have q := filter_less hn m
    rw [plain_cons hF, List.length_cons, plain_length (List.Nodup.sublist List.filter_sublist hn) (by
      have hl' : r.length + 1 ≤ F.length := hl
      omega), List.length_cons]
/-- behind some turns: what is taken, what is still to come, what is free -/
structure Took (h : House) (P : List Nat) (N : Nat) (i : Nat) (done free : List Nat) : Prop where
  eq : (Ks466.plain h P (List.range N)).map Prod.snd = done ++ (Ks466.plain h (P.drop i) free).map Prod.snd
  nd : free.Nodup
  len : free.length + i = N
  lt : ∀ x ∈ free, x < N
  dl : done.length = i
theorem took_zero (h : House) (P : List Nat) (N : Nat) : Took h P N 0 [] (List.range N) :=
  ⟨by rw [List.drop_zero, List.nil_append], List.nodup_range, by rw [List.length_range]; rfl, fun x hx => List.mem_range.mp hx, rfl⟩
theorem took_free {h : House} {P : List Nat} {N i : Nat} {done free : List Nat} (t : Took h P N i done free) (hi : i < N) : free ≠ [] := fun e => by
  have q := t.len
  rw [e, List.length_nil] at q
  omega
theorem took_more {h : House} {P : List Nat} {N i p : Nat} {done free : List Nat} (t : Took h P N i done free) (hp : P[i]? = some p) (hi : i < N) :
    Took h P N (i + 1) (done ++ [top1 h p free free.length]) (free.filter fun x => x != top1 h p free free.length) := by
  have hF := took_free t hi
  have m := top1_mem (h := h) (i := p) hF free.length
  have q := filter_less t.nd m
  have tl := t.len
  refine ⟨?_, List.Nodup.sublist List.filter_sublist t.nd, by omega, fun x hx => t.lt x (List.mem_filter.mp hx).1, by rw [List.length_append, t.dl]; rfl⟩
  have hl := (List.getElem?_eq_some_iff.mp hp).1
  have e : P.drop i = p :: P.drop (i + 1) := by
    rw [List.drop_eq_getElem_cons hl, (List.getElem?_eq_some_iff.mp hp).2]
  rw [t.eq, e, plain_cons hF, List.map_cons, List.append_assoc]
  rfl
theorem took_end {h : House} {P : List Nat} {N i : Nat} {done free : List Nat} (t : Took h P N i done free) (hi : P.length ≤ i) : done = (Ks466.plain h P (List.range N)).map Prod.snd := by
  rw [t.eq, List.drop_eq_nil_of_le hi]
  show done = done ++ []
  rw [List.append_nil]
/-- a party's own row -/
theorem row_of {n : Int} {s w : List Int} {N : Nat} {S W : List Nat} (o : Ok n s w N S W) {p : Nat} (hp : p < S.length) : (house n s w).worth.getD p [] = (W.drop (p * N)).take N := by
  rw [o.eh]
  exact cut_getD N S.length W p hp
theorem row_length {n : Int} {s w : List Int} {N : Nat} {S W : List Nat} (o : Ok n s w N S W) {p : Nat} (hp : p < S.length) : ((W.drop (p * N)).take N).length = N := by
  rw [List.length_take, List.length_drop, o.wl]
  have q : (p + 1) * N ≤ S.length * N := Nat.mul_le_mul_right N hp
  rw [Nat.succ_mul, Nat.mul_comm S.length N] at q
  omega
theorem plain_is {n : Int} {s w : List Int} (hn : 0 ≤ n) (hs : ∀ x ∈ s, 0 ≤ x) (hw : ∀ x ∈ w, 0 ≤ x) :
    PyKs466.plain n s w = if told n s w = true then n :: zi ((Ks466.plain (house n s w) (order (house n s w)) (List.range (house n s w).offices)).map Prod.snd) else [-22] := by
  show Ks466Neutral.out (given n.toNat (Ks466Neutral.nats s) (Ks466Neutral.nats w) fun h => Ks466.told (way h 0)) = _
  rw [given_told hn hs hw]
  split
  · show (((Ks466.plain (house n s w) (order (house n s w)) (List.range (house n s w).offices)).map Prod.snd).length : Int) :: zi ((Ks466.plain (house n s w) (order (house n s w)) (List.range (house n s w).offices)).map Prod.snd) = _
    rw [List.length_map, plain_length List.nodup_range (by rw [order_length, List.length_range]; exact Nat.le_refl _), order_length]
    show ((n.toNat : Nat) : Int) :: _ = _
    rw [Int.toNat_of_nonneg hn]
  · rfl
end Tm
/-! ### The text by places, and what the program's top has left -/
namespace Tw
open PySem PySem.Spec PyProof.Rows L2 Tm
open PySem.W (Codec)
def top (i : Nat) : Stmt := PySem.Challenge.pw_turns_s02_plain.main.body.getD i (.Pass ⟨0, 0, 0, 0⟩)
theorem same_new {H : Hp} {p : Addr} (h : H p = none) (o : HO) : Same H (upd H p o) := fun b u q => by rw [upd_ne (ne_of_none q h)]; exact q
/-- an object that H does not know may change -/
theorem same_mut {H H' : Hp} {p : Addr} {o : HO} (e : Same H H') (h : H p = none) : Same H (upd H' p o) := fun a u ha => by
  rw [upd_ne (ne_of_none ha h)]
  exact e a u ha
theorem small {n : Nat} (h : n ≤ 1000) : n ≤ sizeLine := Nat.le_of_lt (small1000 h)
theorem smallL {n : Nat} (h : n ≤ 1000) : n < sizeLine := small1000 h
/-- a def of the top: where it stands, how its parameters are bound -/
structure Def (K : PySem.W.Frag) (mg : Str → Option Value) (name : Str) (st : Stmt) (ps : List Str) : Prop where
  ex : ∃ (f : Addr) (fd : FuncData), Fun K name name st f fd ∧ mg name = some (.ref f) ∧ Binds K fd ps []
/-- a def that keeps its promise -/
structure Has (P : Program) (w : World) (K : PySem.W.Frag) (mg : Str → Option Value) (base : Heap) (k : Nat) (name : Str) (ps : List Str) (sp : Sp) : Prop where
  ex : ∃ (f : Addr) (fd : FuncData), FnOk P w K mg base CX0 k f fd ps sp ∧ mg name = some (.ref f) ∧ PySem.W.keepIn K (.ref f) = true ∧ Binds K fd ps []
/-- ints by place -/
theorem get_int {ns : List Int} {i : Nat} {y : V} (hi : (ns.map V.int)[i]? = some y) : ∃ z, ns[i]? = some z ∧ y = V.int z := by
  rw [List.getElem?_map] at hi
  cases e : ns[i]? with
  | none =>
    rw [e] at hi
    cases hi
  | some z =>
    rw [e] at hi
    exact ⟨z, rfl, (Option.some.inj hi).symm⟩
theorem get_zi {l : List Nat} {i : Nat} {y : V} (hi : ((zi l).map V.int)[i]? = some y) : ∃ z : Nat, l[i]? = some z ∧ y = V.int (z : Int) := by
  obtain ⟨z, hz, rfl⟩ := get_int hi
  unfold zi at hz
  rw [List.getElem?_map] at hz
  cases e : l[i]? with
  | none =>
    rw [e] at hz
    cases hz
  | some k =>
    rw [e] at hz
    have q : (k : Int) = z := Option.some.inj hz
    exact ⟨k, rfl, by rw [q]⟩
theorem at_zi {l : List Nat} {i k : Nat} (h : l[i]? = some k) : atI ((zi l).map V.int) (i : Int) = some (V.int (k : Int)) := atI_nat (by rw [List.getElem?_map, zi_get h]; rfl)
theorem len_zi (l : List Nat) : ((zi l).map V.int).length = l.length := by rw [List.length_map, zi_length]
theorem len_int (l : List Int) : (l.map V.int).length = l.length := List.length_map _
theorem app_zi (l : List Nat) (k : Nat) : (zi l).map V.int ++ [V.int (k : Int)] = (zi (l ++ [k])).map V.int := by
  rw [zi_append, List.map_append]
  rfl
theorem set_zi (l : List Nat) (i k : Nat) : ((zi l).map V.int).set i (V.int (k : Int)) = (zi (l.set i k)).map V.int := by
  unfold zi
  rw [List.map_set, List.map_set]
end Tw
/-! ### within -/
namespace Tw
open PySem PySem.Spec PyProof.Rows L2 Tm
abbrev sWithin : Stmt := top 8
def spWithin (K : PySem.W.Frag) : Sp := fun vs H Q _ => ∃ (a : Addr) (ns : List Int) (lo hi : Int), vs = [.ref a, .int lo, .int hi] ∧ SqL K H a (ns.map V.int) ∧ Q (.bl (inside lo hi ns)) H
theorem scWithin : FnScope ["numbers", "least", "most", "number"] ["numbers", "least", "most"] (defScope sWithin) := ⟨rfl, rfl, rfl, by decide +kernel, rfl, by decide +kernel, by decide +kernel⟩
theorem inside_bad {lo hi z : Int} {ns : List Int} {i : Nat} (h : ns[i]? = some z) (b : z < lo ∨ hi < z) : inside lo hi ns = false := by
  have m := List.mem_of_getElem? h
  cases e : inside lo hi ns with
  | false => rfl
  | true =>
    have q := List.all_eq_true.mp e z m
    simp only [Bool.not_eq_true', Bool.or_eq_false_iff, decide_eq_false_iff_not] at q
    omega
theorem inside_more {lo hi z : Int} {ns : List Int} {i : Nat} (h : ns[i]? = some z) (b1 : ¬ z < lo) (b2 : ¬ hi < z) (e : inside lo hi (ns.take i) = true) : inside lo hi (ns.take (i + 1)) = true := by
  have q : ns.take (i + 1) = ns.take i ++ [z] := by
    rw [List.take_add_one, h]
    rfl
  rw [q]
  unfold inside at e ⊢
  rw [List.all_append, e, Bool.true_and]
  show (!(decide (z < lo) || decide (z > hi)) && true) = true
  rw [decide_eq_false b1, decide_eq_false b2]
  rfl
section
variable {P : Program} {w : World} {K : PySem.W.Frag} {mg : Str → Option Value} {base : Heap}
theorem ok_within {f : Addr} {fd : FuncData} (F : Fun K "within" "within" sWithin f fd) : FnOk P w K mg base CX0 1 f fd ["numbers", "least", "most"] (spWithin K) := by
  refine F.ok scWithin (fun vs H Q E h => ?_) (fun cdv A outer s H vs Q E hr h => ?_)
  · obtain ⟨a, ns, lo, hi, rfl, _⟩ := h
    rfl
  obtain ⟨a, ns, lo, hi, rfl, hS, q⟩ := h
  refine ⟨_, pss_cons (ps_for PassesOwn.never rfl (pi_list (pv 0)) (pg_name (i := 3) scWithin.nd rfl (Or.inl rfl))
      (pss_one (ps_if (PW.pt (pw_or (pt_cmpR op_lt (pv 3) (pv 1) (nomark _)) (pw_or1 (pt_cmpR op_gt (pv 3) (pv 2) (nomark _))))) (pss_one (ps_ret pe_bl)) pss_nil)))
    (pss_one (ps_ret pe_bl)), ?_⟩
  refine ⟨_, rfl, a, rfl, ⟨_, hS⟩, for_list (K := K) (a := a) (xs := ns.map V.int) (fun i σ H' => ∃ v : Option V, σ = [some (.ref a), some (.int lo), some (.int hi), v] ∧ H' = H ∧ inside lo hi (ns.take i) = true)
    ⟨none, rfl, rfl, rfl⟩ (fun i σ H' _ ⟨_, _, e, _⟩ => by rw [e]; exact hS) ?_ ?_⟩
  · rintro i y σ H' hi' ⟨v, rfl, rfl, hin⟩
    obtain ⟨z, hz, rfl⟩ := get_int hi'
    refine ⟨_, rfl, _, rfl, _, _, rfl, rfl, _, rfl, ?_⟩
    refine ite2 (fun c => ?_) (fun c => ?_)
    · refine iteT ?_
      have b := inside_bad (lo := lo) (hi := hi) hz (Or.inl (of_decide_eq_true c))
      rw [b] at q
      exact q
    · refine ⟨_, rfl, _, rfl, _, _, rfl, rfl, _, rfl, ?_⟩
      refine ite2 (fun c2 => ?_) (fun c2 => ?_)
      · have b := inside_bad (lo := lo) (hi := hi) hz (Or.inr (of_decide_eq_true c2))
        rw [b] at q
        exact q
      · exact ⟨some (.int z), rfl, rfl, inside_more hz (of_decide_eq_false (Bool.eq_false_iff.mpr c)) (of_decide_eq_false (Bool.eq_false_iff.mpr c2)) hin⟩
  · rintro σ H' ⟨v, rfl, rfl, hin⟩
    rw [len_int, List.take_length] at hin
    rw [hin] at q
    exact q
theorem has_within (D : Def K mg "within" sWithin ["numbers", "least", "most"]) : Has P w K mg base 1 "within" ["numbers", "least", "most"] (spWithin K) := by
  obtain ⟨f, fd, F, m, b⟩ := D
  exact ⟨f, fd, ok_within F, m, F.kp, b⟩
end
end Tw
/-! ### as_told -/
namespace Tw
open PySem PySem.Spec PyProof.Rows L2 Tm
abbrev sTold : Stmt := top 7
def spTold (K : PySem.W.Frag) : Sp := fun vs H Q _ => ∃ (a b : Addr) (n : Int) (s w : List Int), vs = [.int n, .ref a, .ref b] ∧ 0 ≤ n ∧ SqL K H a (s.map V.int) ∧ SqL K H b (w.map V.int) ∧ Q (.bl (told n s w)) H
theorem scTold : FnScope ["n", "seats", "worth"] ["n", "seats", "worth"] (defScope sTold) := ⟨rfl, rfl, rfl, by decide +kernel, rfl, by decide +kernel, by decide +kernel⟩
/-- the numbers of the top that as_told asks -/
structure Bounds (mg : Str → Option Value) : Prop where
  mo : ∃ u, mg "MOST_OFFICES" = some u ∧ RelV (.int 5) u
  mp : ∃ u, mg "MOST_PARTIES" = some u ∧ RelV (.int 4) u
  ms : ∃ u, mg "MOST_SEATS" = some u ∧ RelV (.int 200) u
  mw : ∃ u, mg "MOST_WORTH" = some u ∧ RelV (.int 50) u
theorem told_a {n : Int} {s w : List Int} (h : 5 < n) : told n s w = false := by
  unfold told
  rw [decide_eq_true (show n > 5 from h)]
  rfl
theorem told_b {n : Int} {s w : List Int} (h : (s.length : Int) < 1 ∨ 4 < (s.length : Int)) : told n s w = false := by
  unfold told
  have e : (decide ((s.length : Int) < 1) || decide ((s.length : Int) > 4)) = true := by
    rcases h with h | h
    · rw [decide_eq_true h]
      rfl
    · rw [decide_eq_true (show (s.length : Int) > 4 from h), Bool.or_true]
  rw [e, Bool.not_true, Bool.and_false, Bool.false_and, Bool.false_and]
theorem told_c {n : Int} {s w : List Int} (h : ¬ (w.length : Int) = n * (s.length : Int)) : told n s w = false := by
  unfold told
  rw [decide_eq_true (show (w.length : Int) ≠ n * (s.length : Int) from h), Bool.not_true, Bool.and_false, Bool.false_and]
theorem told_d {n : Int} {s w : List Int} (h1 : ¬ 5 < n) (h2 : ¬ (s.length : Int) < 1) (h3 : ¬ 4 < (s.length : Int)) (h4 : (w.length : Int) = n * (s.length : Int)) : told n s w = (inside 1 200 s && inside 0 50 w) := by
  unfold told
  have e4 : decide ((w.length : Int) ≠ n * (s.length : Int)) = false := decide_eq_false fun q => q h4
  rw [decide_eq_false (show ¬ n > 5 from h1), decide_eq_false h2, decide_eq_false (show ¬ (s.length : Int) > 4 from h3), e4]
  rfl
section
variable {P : Program} {w : World} {K : PySem.W.Frag} {mg : Str → Option Value} {base : Heap}
theorem ok_told {f : Addr} {fd : FuncData} (F : Fun K "as_told" "as_told" sTold f fd) (B : Bounds mg) (len : mg "len" = none) (W : Has P w K mg base 1 "within" ["numbers", "least", "most"] (spWithin K)) : FnOk P w K mg base CX0 2 f fd ["n", "seats", "worth"] (spTold K) := by
  obtain ⟨fW, dW, G, mW, kW, bW⟩ := W
  obtain ⟨uo, go, ro⟩ := B.mo
  obtain ⟨up, gp, rp⟩ := B.mp
  obtain ⟨us, gs, rs⟩ := B.ms
  obtain ⟨uw, gw, rw'⟩ := B.mw
  refine F.ok scTold (fun vs H Q E h => ?_) (fun cdv A outer s H vs Q E hr h => ?_)
  · obtain ⟨a, b, n, s, w, rfl, _⟩ := h
    rfl
  obtain ⟨a, b, n, s, w, rfl, h0, hS, hW, q⟩ := h
  refine ⟨_, pss_cons (ps_if (pt_cmpR op_gt (pv 0) (pe_glob rfl go ro) (nomark _)) (pss_one (ps_ret pe_bl)) pss_nil)
    (pss_cons (ps_if (PW.pt (pw_or (pt_cmpR op_lt (pe_callB call_len_seq rfl len PySem.boot_len (pa_cons (pv 1) pa_nil)) pe_int (nomark _)) (pw_or1 (pt_cmpR op_gt (pe_callB call_len_seq rfl len PySem.boot_len (pa_cons (pv 1) pa_nil)) (pe_glob rfl gp rp) (nomark _))))) (pss_one (ps_ret pe_bl)) pss_nil)
    (pss_cons (ps_if (pt_cmpR op_ne (pe_callB call_len_seq rfl len PySem.boot_len (pa_cons (pv 2) pa_nil)) (pe_op op_mul (pv 0) (pe_callB call_len_seq rfl len PySem.boot_len (pa_cons (pv 1) pa_nil))) (nomark _)) (pss_one (ps_ret pe_bl)) pss_nil)
    (pss_one (ps_ret (pe_and (pe_call G hr rfl mW kW bW .nil pass0 (pa_cons (pv 1) (pa_cons pe_int (pa_cons (pe_glob rfl gs rs) pa_nil)))) (pe_one (pe_call G hr rfl mW kW bW .nil pass0 (pa_cons (pv 2) (pa_cons pe_int (pa_cons (pe_glob rfl gw rw') pa_nil)))))))))), ?_⟩
  refine ⟨_, rfl, _, _, rfl, rfl, _, rfl, ?_⟩
  refine ite2 (fun c => ?_) (fun c => ?_)
  · rw [told_a (of_decide_eq_true c)] at q
    exact q
  have c1 : ¬ 5 < n := of_decide_eq_false (Bool.eq_false_iff.mpr c)
  have ls : (((s.map V.int).length : Nat) : Int) = (s.length : Int) := by rw [len_int]
  have lw : (((w.map V.int).length : Nat) : Int) = (w.length : Int) := by rw [len_int]
  refine ⟨_, rfl, a, _, rfl, .inl hS, _, _, rfl, rfl, _, rfl, ?_⟩
  refine ite2 (fun c => iteT ?_) (fun c => ?_)
  · have c' := of_decide_eq_true c
    rw [ls] at c'
    rw [told_b (Or.inl c')] at q
    exact q
  have c2 : ¬ (s.length : Int) < 1 := by
    have c' := of_decide_eq_false (Bool.eq_false_iff.mpr c)
    rw [ls] at c'
    exact c'
  refine ⟨_, rfl, a, _, rfl, .inl hS, _, _, rfl, rfl, _, rfl, ?_⟩
  refine ite2 (fun c => ?_) (fun c => ?_)
  · have c' := of_decide_eq_true c
    rw [ls] at c'
    rw [told_b (Or.inr c')] at q
    exact q
  have c3 : ¬ 4 < (s.length : Int) := by
    have c' := of_decide_eq_false (Bool.eq_false_iff.mpr c)
    rw [ls] at c'
    exact c'
  refine ⟨_, rfl, b, _, rfl, .inl hW, _, rfl, _, rfl, a, _, rfl, .inl hS, _, _, rfl, rfl, .inl ⟨by omega, by omega⟩, rfl, _, rfl, ?_⟩
  refine ite2 (fun c => ?_) (fun c => ?_)
  · have c' : ¬ V.int (((w.map V.int).length : Nat) : Int) = V.int (n * (((s.map V.int).length : Nat) : Int)) := by
      intro e
      rw [decide_eq_true e] at c
      exact Bool.noConfusion c
    rw [ls, lw] at c'
    rw [told_c fun e => c' (by rw [e])] at q
    exact q
  have c4 : (w.length : Int) = n * (s.length : Int) := by
    have c' : V.int (((w.map V.int).length : Nat) : Int) = V.int (n * (((s.map V.int).length : Nat) : Int)) := by
      rcases Decidable.em (V.int (((w.map V.int).length : Nat) : Int) = V.int (n * (((s.map V.int).length : Nat) : Int))) with e | e
      · exact e
      · rw [decide_eq_false e] at c
        exact absurd rfl c
    rw [ls, lw] at c'
    exact V.int.inj c'
  rw [told_d c1 c2 c3 c4] at q
  refine ⟨_, rfl, a, s, _, _, rfl, hS, _, rfl, ?_⟩
  refine ite2 (fun c => ?_) (fun c => ?_)
  · rw [c, Bool.true_and] at q
    exact ⟨_, rfl, b, w, _, _, rfl, hW, q⟩
  · rw [Bool.eq_false_iff.mpr c, Bool.false_and] at q
    exact q
theorem has_told (D : Def K mg "as_told" sTold ["n", "seats", "worth"]) (B : Bounds mg) (len : mg "len" = none) (W : Has P w K mg base 1 "within" ["numbers", "least", "most"] (spWithin K)) : Has P w K mg base 2 "as_told" ["n", "seats", "worth"] (spTold K) := by
  obtain ⟨f, fd, F, m, b⟩ := D
  exact ⟨f, fd, ok_told F B len W, m, F.kp, b⟩
end
end Tw
/-! ### party_on_turn -/
namespace Tw
open PySem PySem.Spec PyProof.Rows L2 Tm
abbrev sParty : Stmt := top 10
/-- a house as the loops need it -/
structure Fit (h : Ks466.House) : Prop where
  p1 : 1 ≤ h.seats.length
  p4 : h.seats.length ≤ 4
  sb : ∀ x ∈ h.seats, x ≤ 200
  n5 : h.offices ≤ 5
def spParty (K : PySem.W.Frag) : Sp := fun vs H Q _ => ∃ (a c : Addr) (h : Ks466.House) (l : List Nat), vs = [.ref a, .ref c] ∧ Fit h ∧ SqL K H a ((zi h.seats).map V.int) ∧ SqL K H c ((zi (hads h.seats.length l)).map V.int) ∧ Q (.int ((Ks466.turn h l : Nat) : Int)) H
theorem scParty : FnScope ["seats", "had", "best", "party"] ["seats", "had"] (defScope sParty) := ⟨rfl, rfl, rfl, by decide +kernel, rfl, by decide +kernel, by decide +kernel⟩
theorem small200 {k : Nat} (h : k ≤ 200) : (-(2 ^ 64) : Int) < ((k : Nat) : Int) ∧ ((k : Nat) : Int) < 2 ^ 64 := ⟨by omega, by omega⟩
section
variable {P : Program} {w : World} {K : PySem.W.Frag} {mg : Str → Option Value} {base : Heap}
theorem ok_party {f : Addr} {fd : FuncData} (F : Fun K "party_on_turn" "party_on_turn" sParty f fd) (len : mg "len" = none) (range : mg "range" = none) : FnOk P w K mg base CX0 1 f fd ["seats", "had"] (spParty K) := by
  refine F.ok scParty (fun vs H Q E h => ?_) (fun cdv A outer s H vs Q E hr h => ?_)
  · obtain ⟨a, c, h, l, rfl, _⟩ := h
    rfl
  obtain ⟨a, c, h, l, rfl, hf, hS, hC, q⟩ := h
  refine ⟨_, pss_cons (ps_set (i := 2) scParty.nd rfl (Or.inl rfl) pe_int)
    (pss_cons (ps_for PassesOwn.never rfl (pi_range2 rfl range (pa_cons pe_int (pa_cons (pe_callB call_len_seq rfl len PySem.boot_len (pa_cons (pv 0) pa_nil)) pa_nil))) (pg_name (i := 3) scParty.nd rfl (Or.inl rfl))
      (pss_one (ps_if (pt_cmpR op_gt
          (pe_op op_mul (pe_ix ix_list (pv 0) (pv 3) (fun _ _ => rfl)) (pe_op op_add (pe_ix ix_list (pv 1) (pv 2) (fun _ _ => rfl)) pe_int))
          (pe_op op_mul (pe_ix ix_list (pv 0) (pv 2) (fun _ _ => rfl)) (pe_op op_add (pe_ix ix_list (pv 1) (pv 3) (fun _ _ => rfl)) pe_int)) (nomark _))
        (pss_one (ps_set (i := 2) scParty.nd rfl (Or.inl rfl) (pv 3))) pss_nil)))
    (pss_one (ps_ret (pv 2)))), ?_⟩
  have p1 := hf.p1
  have p4 := hf.p4
  have ls : ((((zi h.seats).map V.int).length : Nat) : Int) = (h.seats.length : Int) := by rw [len_zi]
  refine ⟨_, rfl, a, _, rfl, .inl hS, 1, _, rfl, ⟨by decide, by decide, by rw [ls]; omega, by rw [ls]; omega⟩, ?_⟩
  have en : ((((zi h.seats).map V.int).length : Nat) - 1 : Int).toNat = h.seats.length - 1 := by rw [ls]; omega
  rw [en]
  refine for_range (lo := 1) (n := h.seats.length - 1) (fun i σ H' => ∃ v : Option V, σ = [some (.ref a), some (.ref c), some (.int ((best h l (i + 1) : Nat) : Int)), v] ∧ H' = H) ⟨none, by rw [best_one]; rfl, rfl⟩ ?_ ?_
  · rintro i σ H' hi ⟨v, rfl, rfl⟩
    have ei : (1 : Int) + (i : Int) = ((i + 1 : Nat) : Int) := by omega
    rw [ei]
    have hi1 : i + 1 < h.seats.length := by omega
    have hb : best h l (i + 1) < h.seats.length := Nat.lt_trans (best_lt h l i) hi1
    have s1 := at_zi (seat_get (h := h) hi1)
    have s2 := at_zi (seat_get (h := h) hb)
    have c1 := at_zi (hads_get l hi1)
    have c2 := at_zi (hads_get l hb)
    refine ⟨_, rfl, _, rfl, a, _, _, _, rfl, rfl, hS, s1, _, rfl, _, rfl, c, _, _, _, rfl, rfl, hC, c2, _, _, rfl, rfl, _, _, rfl, rfl, .inl (small200 (seat_le hf.sb hi1)),
      _, rfl, _, rfl, a, _, _, _, rfl, rfl, hS, s2, _, rfl, _, rfl, c, _, _, _, rfl, rfl, hC, c1, _, _, rfl, rfl, _, _, rfl, rfl, .inl (small200 (seat_le hf.sb hb)), _, _, rfl, rfl, _, rfl, ?_⟩
    have eq1 : ((Ks466.seat h (best h l (i + 1)) : Nat) : Int) * (((Ks466.had l (i + 1) : Nat) : Int) + 1) = ((Ks466.seat h (best h l (i + 1)) * (Ks466.had l (i + 1) + 1) : Nat) : Int) := by
      rw [Int.natCast_mul]
      rfl
    have eq2 : ((Ks466.seat h (i + 1) : Nat) : Int) * (((Ks466.had l (best h l (i + 1)) : Nat) : Int) + 1) = ((Ks466.seat h (i + 1) * (Ks466.had l (best h l (i + 1)) + 1) : Nat) : Int) := by
      rw [Int.natCast_mul]
      rfl
    rw [eq1, eq2]
    refine ite2 (fun e => ?_) (fun e => ?_)
    · have e' := Int.ofNat_lt.mp (of_decide_eq_true e)
      refine ⟨_, rfl, some (.int ((i + 1 : Nat) : Int)), ?_, rfl⟩
      rw [best_succ h l (i + 1)]
      unfold pick
      rw [if_pos e']
      rfl
    · have e' : ¬ _ := fun z => of_decide_eq_false (Bool.eq_false_iff.mpr e) (Int.ofNat_lt.mpr z)
      refine ⟨some (.int ((i + 1 : Nat) : Int)), ?_, rfl⟩
      rw [best_succ h l (i + 1)]
      unfold pick
      rw [if_neg e']
      rfl
  · rintro σ H' ⟨v, rfl, rfl⟩
    have e1 : h.seats.length - 1 + 1 = h.seats.length := by omega
    rw [e1]
    exact ⟨_, rfl, q⟩
theorem has_party (D : Def K mg "party_on_turn" sParty ["seats", "had"]) (len : mg "len" = none) (range : mg "range" = none) : Has P w K mg base 1 "party_on_turn" ["seats", "had"] (spParty K) := by
  obtain ⟨f, fd, F, m, b⟩ := D
  exact ⟨f, fd, ok_party F len range, m, F.kp, b⟩
end
end Tw
/-! ### choosers -/
namespace Tw
open PySem PySem.Spec PyProof.Rows L2 Tm
abbrev sChoosers : Stmt := top 9
def spChoosers (K : PySem.W.Frag) : Sp := fun vs H Q _ => ∃ (a : Addr) (h : Ks466.House), vs = [.int ((h.offices : Nat) : Int), .ref a] ∧ Fit h ∧ SqL K H a ((zi h.seats).map V.int) ∧
  ∀ (H' : Hp) (p : Addr), Same H H' → H p = none → H' p = some (.lst ((zi (Ks466.order h)).map V.int)) → Q (.ref p) H'
theorem scChoosers : FnScope ["n", "seats", "had", "parties", "turn", "party"] ["n", "seats"] (defScope sChoosers) := ⟨rfl, rfl, rfl, by decide +kernel, rfl, by decide +kernel, by decide +kernel⟩
theorem rep_zero (m : Nat) : (List.replicate m [V.int 0]).flatten = (zi (hads m [])).map V.int := by
  rw [hads_nil]
  unfold zi
  rw [List.map_replicate, List.map_replicate]
  induction m with
  | zero => rfl
  | succ m ih =>
    rw [List.replicate_succ, List.flatten_cons, ih, List.replicate_succ]
    rfl
section
variable {P : Program} {w : World} {K : PySem.W.Frag} {mg : Str → Option Value} {base : Heap}
theorem ok_choosers {f : Addr} {fd : FuncData} (F : Fun K "choosers" "choosers" sChoosers f fd) (len : mg "len" = none) (range : mg "range" = none) (W : Has P w K mg base 1 "party_on_turn" ["seats", "had"] (spParty K)) : FnOk P w K mg base CX0 2 f fd ["n", "seats"] (spChoosers K) := by
  obtain ⟨fW, dW, G, mW, kW, bW⟩ := W
  refine F.ok scChoosers (fun vs H Q E h => ?_) (fun cdv A outer s H vs Q E hr h => ?_)
  · obtain ⟨a, h, rfl, _⟩ := h
    rfl
  obtain ⟨a, h, rfl, hf, hS, q⟩ := h
  refine ⟨_, pss_cons (ps_set (i := 2) scChoosers.nd rfl (Or.inl rfl) (pe_op op_rep (pe_lst (pa_cons pe_int pa_nil)) (pe_callB call_len_seq rfl len PySem.boot_len (pa_cons (pv 1) pa_nil))))
    (pss_cons (ps_set (i := 3) scChoosers.nd rfl (Or.inl rfl) (pe_lst pa_nil))
    (pss_cons (ps_for PassesOwn.never rfl (pi_range1 rfl range (pa_cons (pv 0) pa_nil)) (pg_name (i := 4) scChoosers.nd rfl (Or.inl rfl))
      (pss_cons (ps_set (i := 5) scChoosers.nd rfl (Or.inl rfl) (pe_call G hr rfl mW kW bW .nil pass0 (pa_cons (pv 1) (pa_cons (pv 2) pa_nil))))
      (pss_cons (ps_expr (pe_bm PySem.F.plainAttrs_list PySem.F.slot_list_append PySem.F.type_list_append mt_append (pv 3) (pa_cons (pv 5) pa_nil)))
      (pss_one (ps_asg (pe_op op_add (pe_ix ix_list (pv 2) (pv 5) (fun _ _ => rfl)) pe_int) (pg_sub (pv 2) (pv 5) set_list))))))
    (pss_one (ps_ret (pv 3))))), ?_⟩
  have p1 := hf.p1
  have p4 := hf.p4
  have n5 := hf.n5
  have ls : ((((zi h.seats).map V.int).length : Nat) : Int) = (h.seats.length : Int) := by rw [len_zi]
  have ln : ((((zi h.seats).map V.int).length : Nat) : Int).toNat = h.seats.length := by rw [ls]; omega
  refine ⟨(by show 1 ≤ sizeLine; decide), fun z hz => ?_⟩
  have g0 : Same H (upd H z (.lst [.int 0])) := same_new hz _
  refine ⟨_, rfl, a, _, rfl, .inl (g0.seq hS), z, _, _, rfl, rfl, upd_same, (by rw [ls]; omega), (by rw [ls]; omega), (by rw [ln]; exact small (by show 1 * h.seats.length ≤ 1000; omega)), fun c hc => ?_⟩
  rw [ln, rep_zero]
  have g1 : Same H (upd (upd H z (.lst [.int 0])) c (.lst ((zi (hads h.seats.length [])).map V.int))) := g0.trans (same_new hc _)
  have hc0 : H c = none := g0.free hc
  refine ⟨(by show 0 ≤ sizeLine; decide), fun p hp => ?_⟩
  have g2 := g1.trans (same_new hp (.lst []))
  have hp0 : H p = none := g1.free hp
  have ne : c ≠ p := fun e => by
    rw [← e, upd_same] at hp
    cases hp
  refine ⟨_, rfl, _, rfl, by omega, by omega, for_range (lo := 0) (n := ((h.offices : Nat) : Int).toNat) (fun i σ H' => ∃ v4 v5 : Option V, σ = [some (.int ((h.offices : Nat) : Int)), some (.ref a), some (.ref c), some (.ref p), v4, v5] ∧ Same H H' ∧
      H' c = some (.lst ((zi (hads h.seats.length (Ks466.turns h i []))).map V.int)) ∧ H' p = some (.lst ((zi (Ks466.turns h i [])).map V.int)))
    ⟨none, none, rfl, g2, ?_, upd_same⟩ ?_ ?_⟩
  · rw [upd_ne ne]
    exact upd_same
  · rintro i σ H' hi ⟨v4, v5, rfl, g, ec, ep⟩
    have ht := turn_lt h (Ks466.turns h i []) p1
    have hl : (Ks466.turns h i []).length = i := by
      rw [turns_length]
      exact Nat.zero_add _
    refine ⟨_, rfl, _, rfl, a, c, h, _, rfl, hf, g.seq hS, SqL.of ec, ?_⟩
    refine ⟨_, rfl, .inl ⟨rfl, _, SqL.of ep⟩, _, rfl, p, _, _, rfl, rfl, ep, (by rw [len_zi, hl]; exact smallL (by omega)), ?_⟩
    have ec' : (upd H' p (.lst ((zi (Ks466.turns h i [])).map V.int ++ [V.int ((Ks466.turn h (Ks466.turns h i []) : Nat) : Int)]))) c = some (.lst ((zi (hads h.seats.length (Ks466.turns h i []))).map V.int)) := by
      rw [upd_ne ne]
      exact ec
    refine ⟨_, rfl, _, rfl, c, _, _, _, rfl, rfl, SqL.of ec', at_zi (hads_get _ ht), _, _, rfl, rfl, _, rfl, _, rfl, c, _, _, _, rfl, rfl, ec', Evl.ixN_nat (by rw [len_zi, hads_length]; exact ht), ?_⟩
    refine ⟨_, _, rfl, same_mut (same_mut g hp0) hc0, ?_, ?_⟩
    · rw [upd_same, turns_succ, hads_app, ← set_zi]
      rfl
    · rw [upd_ne (Ne.symm ne), upd_same, turns_succ, app_zi]
  · rintro σ H' ⟨v4, v5, rfl, g, ec, ep⟩
    exact ⟨_, rfl, q H' p g hp0 ep⟩
theorem has_choosers (D : Def K mg "choosers" sChoosers ["n", "seats"]) (len : mg "len" = none) (range : mg "range" = none) (W : Has P w K mg base 1 "party_on_turn" ["seats", "had"] (spParty K)) : Has P w K mg base 2 "choosers" ["n", "seats"] (spChoosers K) := by
  obtain ⟨f, fd, F, m, b⟩ := D
  exact ⟨f, fd, ok_choosers F len range W, m, F.kp, b⟩
end
end Tw
/-! ### addresses of things of one kind; {key: value} with a tuple for its key -/
namespace Tw
open PySem PySem.Spec PyProof.Rows L2 Tm
/-- at the addresses stand the things of a list, each by f -/
inductive Ats {α : Type} (H : Hp) (f : α → HO) : List Addr → List α → Prop
  | nil : Ats H f [] []
  | cons {q : Addr} {x : α} {as : List Addr} {xs : List α} : H q = some (f x) → Ats H f as xs → Ats H f (q :: as) (x :: xs)
section
variable {α : Type} {H H' : Hp} {f : α → HO}
theorem Ats.same : ∀ {as : List Addr} {xs : List α}, Ats H f as xs → Same H H' → Ats H' f as xs
  | _, _, .nil, _ => .nil
  | _, _, .cons h t, e => .cons (e _ _ h) (t.same e)
theorem Ats.length : ∀ {as : List Addr} {xs : List α}, Ats H f as xs → as.length = xs.length
  | _, _, .nil => rfl
  | _, _, .cons _ t => congrArg (· + 1) t.length
theorem Ats.append : ∀ {as bs : List Addr} {xs ys : List α}, Ats H f as xs → Ats H f bs ys → Ats H f (as ++ bs) (xs ++ ys)
  | _, _, _, _, .nil, u => u
  | _, _, _, _, .cons h t, u => .cons h (t.append u)
theorem Ats.get : ∀ {as : List Addr} {xs : List α} {j : Nat} {q : Addr}, Ats H f as xs → as[j]? = some q → ∃ x, xs[j]? = some x ∧ H q = some (f x)
  | _, _, j, q, .nil, e => by simp at e
  | _, _, 0, q, .cons (x := x) h t, e => by
    have e1 := Option.some.inj e
    subst e1
    exact ⟨x, rfl, h⟩
  | _, _, j + 1, q, .cons h t, e => t.get (j := j) e
theorem Ats.at : ∀ {as : List Addr} {xs : List α} {j : Nat} {x : α}, Ats H f as xs → xs[j]? = some x → ∃ q, as[j]? = some q ∧ H q = some (f x)
  | _, _, j, x, .nil, e => by simp at e
  | _, _, 0, x, .cons (q := q) h t, e => by
    have e1 := Option.some.inj e
    subst e1
    exact ⟨q, rfl, h⟩
  | _, _, j + 1, x, .cons h t, e => t.at (j := j) e
/-- another object may change -/
theorem Ats.but {D : Addr} {o : HO} : ∀ {as : List Addr} {xs : List α}, Ats H f as xs → Same H H' → D ∉ as → Ats (upd H' D o) f as xs
  | _, _, .nil, _, _ => .nil
  | _, _, .cons (q := q) h t, e, n => .cons (by rw [upd_ne fun z => n (by rw [z]; exact List.mem_cons_self)]; exact e _ _ h) (t.but e fun z => n (List.mem_cons_of_mem _ z))
theorem Ats.nin {D : Addr} {o : HO} (hD : H D = some o) (ne : ∀ x, f x ≠ o) : ∀ {as : List Addr} {xs : List α}, Ats H f as xs → D ∉ as
  | _, _, .nil, z => by cases z
  | _, _, .cons (x := x) h t, z => by
    rcases List.mem_cons.mp z with e | e
    · rw [← e, hD] at h
      exact ne x (Option.some.inj h).symm
    · exact t.nin hD ne e
theorem Ats.drop1 : ∀ {as : List Addr} {xs : List α}, Ats H f as xs → Ats H f (as.drop 1) (xs.drop 1)
  | _, _, .nil => .nil
  | _, _, .cons _ t => t
end
theorem ne_of_none' {H : Hp} {a b : Addr} {o : HO} (h : H a = some o) (h' : H b = none) : b ≠ a := Ne.symm (ne_of_none h h')
theorem get_ref {as : List Addr} {i : Nat} {y : V} (hi : (as.map V.ref)[i]? = some y) : ∃ q, as[i]? = some q ∧ y = V.ref q := by
  rw [List.getElem?_map] at hi
  cases e : as[i]? with
  | none =>
    rw [e] at hi
    cases hi
  | some z =>
    rw [e] at hi
    exact ⟨z, rfl, (Option.some.inj hi).symm⟩
theorem app_ref (as : List Addr) (q : Addr) : as.map V.ref ++ [V.ref q] = (as ++ [q]).map V.ref := by
  rw [List.map_append]
  rfl
def oT (l : List Nat) : HO := .tup ((zi l).map V.int)
def oL (l : List Nat) : HO := .lst ((zi l).map V.int)
theorem Ats.mut {H H' : Hp} {D : Addr} {o : HO} {ys : List V} {as : List Addr} {xs : List (List Nat)} (t : Ats H oT as xs) (e : Same H H') (hD : H D = some (.lst ys)) : Ats (upd H' D o) oT as xs := t.but e (t.nin hD fun x z => by cases z)
/-- a part of the offices as a key -/
def keyOf (l : List Nat) : List Key := l.map fun x => Sum.inl ((x : Nat) : Int)
theorem key_map (l : List Nat) : (keyOf l).map kV = (zi l).map V.int := by
  unfold keyOf zi
  rw [List.map_map, List.map_map]
  rfl
theorem key_inj : ∀ {l m : List Nat}, keyOf l = keyOf m → l = m
  | [], [], _ => rfl
  | [], _ :: _, e => by cases e
  | _ :: _, [], e => by cases e
  | a :: l, b :: m, e => by
    have e' : (Sum.inl ((a : Nat) : Int) : Key) :: keyOf l = Sum.inl ((b : Nat) : Int) :: keyOf m := e
    injection e' with e1 e2
    injection e1 with e3
    have e4 : a = b := by omega
    rw [e4, key_inj e2]
theorem in_zi (i : Nat) : ∀ l : List Nat, inV (.int (i : Int)) ((zi l).map V.int) = decide (i ∈ l)
  | [] => by simp [inV, zi]
  | a :: l => by
    have ih := in_zi i l
    show (((a : Int) == (i : Int)) || inV (.int (i : Int)) ((zi l).map V.int)) = _
    rw [ih, Bool.eq_iff_iff]
    have e : ((a : Int) = (i : Int)) ↔ i = a := by omega
    simp only [Bool.or_eq_true, beq_iff_eq, decide_eq_true_eq, List.mem_cons, e]
theorem flat_zi : ∀ l : List Nat, ((zi l).map V.int).all flatV = true
  | [] => rfl
  | a :: l => by
    show (true && ((zi l).map V.int).all flatV) = true
    rw [flat_zi l]
    rfl
/-- {k: v}, k a tuple: the new dict stands empty while both are made -/
def tDisp1T (tk tv : TE) : TE := fun σ H Q => ∀ p, H p = none → tk σ (upd H p (.dT [])) fun x H1 => tv σ H1 fun y H2 => H2 p = some (.dT []) ∧ ∃ (k : List Key) (b : Addr), x = .ref b ∧ H2 b = some (.tup (k.map kV)) ∧ Q (.ref p) (upd H2 p (.dT [(k, y)]))
theorem pe_disp1T {X : Cx} {pos : Pos} {k v : Expr} {tk tv : TE} (hu : X.A.units + 1 < cLine) (hk : PE X k tk) (hv : PE X v tv) : PE X (.Dict [some k] [v] pos) (tDisp1T tk tv) := by
  refine ⟨fun pins s σ H Q I q => ?_⟩
  have hn := I.hok.fresh (Nat.le_refl s.heap.objs.size)
  have I1 := I.laid (a := s.heap.objs.size) (o := .dT []) (h' := s.heap.push { cls := .type "dict", data := .dict #[] }) (t' := s.toks) (fun _ _ q => Heap.get?_push_of_some _ q) (Nat.le_refl _) (dt_empty s.heap I.big)
  have hroom : (tupleKind (mixKind X.prog X.w)).room X.A := by
    show X.A.units < cLine
    omega
  rw [arm_eval_Dict, zip_pairTrees [some k] [v] X.env pos rfl rfl, dictDisplay_pairs (pairTrees [some k] [v] X.env pos) (by intro z; cases z) (by show 1 < _; decide)]
  refine wpAny_bind (wpAny_standAt (wpAny_bind (wpAny_subDictH (knd := tupleKind (mixKind X.prog X.w)) (Q := fun d s' => wpAny (model X.prog X.w) X.A (pure (Value.ref d)) _ X.xe s') hroom (by show 1 ≤ 15; decide) ?_)))
  refine pairTrees_cons_walk (thn (hk.run pins _ σ _ _ I1 (q _ hn)) fun u s1 ⟨x, H1, I2, rx, q1⟩ => thn (hv.run pins s1 σ H1 _ I2 q1) fun w2 s2 ⟨y, H2, I3, ry, e, kk, b, ex, eb, q2⟩ => pairTrees_nil_walk ?_)
  subst ex
  cases (show u = Value.ref b from rx)
  obtain ⟨z, hd, xs, rel, dd⟩ := dt_of I3.hok e
  cases rel
  refine ⟨[(kk, b, w2)], ⟨rfl, rfl, key_of I3.hok eb, True.intro⟩, dd, fun h' tk dd' hs => wpAny_pure ⟨.ref s.heap.objs.size, _, ?_, rfl, q2⟩⟩
  obtain ⟨q', es, ep, hq, h2, h3, h4, _, h5⟩ := dd'
  refine d_write I3 (by rw [e]; exact True.intro) hs ⟨q', hq⟩ ⟨by show 1 ≤ sizeLine; decide, hd, [(kk, b, w2)], ?_, q', es, ep, hq, h2, h3, h4, h5⟩
  have r : KT H2 [(kk, y)] [(kk, b, w2)] := .cons ⟨rfl, eb, ry⟩ .nil
  refine r.keeps fun c ys ec => ?_
  rw [upd_ne (ne_of ec e (fun z => nomatch z))]
  exact ec
end Tw
/-! ### worths_of -/
namespace Tw
open PySem PySem.Spec PyProof.Rows L2 Tm
abbrev sOwn : Stmt := top 12
def spOwn (K : PySem.W.Frag) : Sp := fun vs H Q _ => ∃ (b : Addr) (n : Int) (s w : List Int) (N : Nat) (S W : List Nat) (p : Nat), vs = [.int ((N : Nat) : Int), .int ((p : Nat) : Int), .ref b] ∧ Ok n s w N S W ∧ p < S.length ∧ SqL K H b ((zi W).map V.int) ∧
  ∀ (H' : Hp) (r : Addr), Same H H' → H r = none → H' r = some (.lst ((zi ((house n s w).worth.getD p [])).map V.int)) → Q (.ref r) H'
theorem scOwn : FnScope ["n", "party", "worth"] ["n", "party", "worth"] (defScope sOwn) := ⟨rfl, rfl, rfl, by decide +kernel, rfl, by decide +kernel, by decide +kernel⟩
theorem cut_zi (W : List Nat) (p N : Nat) (hp : (p + 1) * N ≤ W.length) : cutV ((zi W).map V.int) (some ((p * N : Nat) : Int)) (some ((p * N + N : Nat) : Int)) = (zi ((W.drop (p * N)).take N)).map V.int := by
  unfold cutV
  rw [HT.sIx_nat, HT.sIx_nat, len_zi]
  rw [Nat.succ_mul] at hp
  have m1 : min (p * N) W.length = p * N := Nat.min_eq_left (by omega)
  have m2 : min (p * N + N) W.length = p * N + N := Nat.min_eq_left hp
  rw [m1, m2]
  have e : p * N + N - p * N = N := by omega
  rw [e]
  unfold zi
  rw [← List.map_drop, ← List.map_drop, ← List.map_take, ← List.map_take]
theorem row_len {n : Int} {s w : List Int} {N : Nat} {S W : List Nat} (o : Ok n s w N S W) {p : Nat} (hp : p < S.length) : ((house n s w).worth.getD p []).length = N := by
  rw [row_of o hp]
  exact row_length o hp
section
variable {P : Program} {w : World} {K : PySem.W.Frag} {mg : Str → Option Value} {base : Heap}
theorem ok_own {f : Addr} {fd : FuncData} (F : Fun K "worths_of" "worths_of" sOwn f fd) : FnOk P w K mg base CX0 1 f fd ["n", "party", "worth"] (spOwn K) := by
  refine F.ok scOwn (fun vs H Q E h => ?_) (fun cdv A outer s H vs Q E hr h => ?_)
  · obtain ⟨b, n, s, w, N, S, W, p, rfl, _⟩ := h
    rfl
  obtain ⟨b, n, s, w, N, S, W, p, rfl, o, hpS, hB, q⟩ := h
  refine ⟨_, pss_one (ps_ret (pe_slice sl_list (pv 2) (po_some (pe_op op_mul (pv 1) (pv 0))) (po_some (pe_op op_add (pe_op op_mul (pv 1) (pv 0)) (pv 0))))), ?_⟩
  have p4 := o.p4
  have em : ((p : Nat) : Int) * ((N : Nat) : Int) = ((p * N : Nat) : Int) := (Int.natCast_mul p N).symm
  have ea : ((p : Nat) : Int) * ((N : Nat) : Int) + ((N : Nat) : Int) = ((p * N + N : Nat) : Int) := by
    rw [em]
    rfl
  have hw1 : (p + 1) * N ≤ W.length := by
    rw [o.wl, Nat.mul_comm N]
    exact Nat.mul_le_mul_right N hpS
  refine ⟨_, rfl, _, rfl, _, rfl, _, _, rfl, rfl, .inl ⟨by omega, by omega⟩, _, rfl, _, rfl, _, rfl, _, _, rfl, rfl, .inl ⟨by omega, by omega⟩, _, rfl, _, _, rfl, rfl, _, rfl, b, _, rfl, hB, fun r hr' => ?_⟩
  rw [ea, em, cut_zi W p N hw1, ← row_of o hpS]
  exact q _ r (same_new hr' _) hr' upd_same
theorem has_own (D : Def K mg "worths_of" sOwn ["n", "party", "worth"]) : Has P w K mg base 1 "worths_of" ["n", "party", "worth"] (spOwn K) := by
  obtain ⟨f, fd, F, m, b⟩ := D
  exact ⟨f, fd, ok_own F, m, F.kp, b⟩
end
end Tw
/-! ### worth_most -/
namespace Tw
open PySem PySem.Spec PyProof.Rows L2 Tm
abbrev sMost : Stmt := top 13
def spMost (K : PySem.W.Frag) : Sp := fun vs H Q _ => ∃ (a c : Addr) (h : Ks466.House) (i : Nat) (F : List Nat), vs = [.ref a, .ref c] ∧ F ≠ [] ∧ (∀ x ∈ F, x < (h.worth.getD i []).length) ∧ (SqL K H a ((zi F).map V.int) ∨ H a = some (oT F)) ∧ SqL K H c ((zi (h.worth.getD i [])).map V.int) ∧ Q (.int ((top1 h i F F.length : Nat) : Int)) H
theorem scMost : FnScope ["free", "own_worth", "best", "office"] ["free", "own_worth"] (defScope sMost) := ⟨rfl, rfl, rfl, by decide +kernel, rfl, by decide +kernel, by decide +kernel⟩
theorem worth_get {h : Ks466.House} {i o : Nat} (c : o < (h.worth.getD i []).length) : (h.worth.getD i [])[o]? = some (Ks466.worth h i o) := by
  unfold Ks466.worth
  rw [List.getD_eq_getElem?_getD (l := h.worth.getD i []), List.getElem?_eq_getElem c]
  rfl
section
variable {P : Program} {w : World} {K : PySem.W.Frag} {mg : Str → Option Value} {base : Heap}
theorem ok_most {f : Addr} {fd : FuncData} (F : Fun K "worth_most" "worth_most" sMost f fd) : FnOk P w K mg base CX0 1 f fd ["free", "own_worth"] (spMost K) := by
  refine F.ok scMost (fun vs H Q E h => ?_) (fun cdv A outer s H vs Q E hr h => ?_)
  · obtain ⟨a, c, h, i, l, rfl, _⟩ := h
    rfl
  obtain ⟨a, c, h, i, l, rfl, hne, hlt, hS, hC, q⟩ := h
  have h0 : l[0]? = some (l.headD 0) := by
    cases l with
    | nil => exact absurd rfl hne
    | cons x r => rfl
  have a0 : atI ((zi l).map V.int) 0 = some (V.int ((l.headD 0 : Nat) : Int)) := at_zi h0
  rcases hS with hS | hS
  · refine ⟨_, pss_cons (ps_set (i := 2) scMost.nd rfl (Or.inl rfl) (pe_ix ix_list (pv 0) pe_int (fun _ _ => rfl)))
      (pss_cons (ps_for PassesOwn.never rfl (pi_list (pv 0)) (pg_name (i := 3) scMost.nd rfl (Or.inl rfl))
        (pss_one (ps_if (pt_cmpR op_gt (pe_ix ix_list (pv 1) (pv 3) (fun _ _ => rfl)) (pe_ix ix_list (pv 1) (pv 2) (fun _ _ => rfl)) (nomark _))
          (pss_one (ps_set (i := 2) scMost.nd rfl (Or.inl rfl) (pv 3))) pss_nil)))
      (pss_one (ps_ret (pv 2)))), ?_⟩
    refine ⟨_, rfl, a, _, _, _, rfl, rfl, hS, a0, ?_⟩
    refine ⟨_, rfl, a, rfl, ⟨_, hS⟩, for_list (K := K) (a := a) (xs := (zi l).map V.int) (fun k σ H' => ∃ v : Option V, σ = [some (.ref a), some (.ref c), some (.int ((top1 h i l k : Nat) : Int)), v] ∧ H' = H)
      ⟨none, rfl, rfl⟩ (fun i σ H' _ ⟨_, _, e⟩ => by rw [e]; exact hS) ?_ ?_⟩
    · rintro k y σ H' hk ⟨v, rfl, rfl⟩
      obtain ⟨o, ho, rfl⟩ := get_zi hk
      have w1 := at_zi (worth_get (h := h) (i := i) (hlt o (List.mem_of_getElem? ho)))
      have w2 := at_zi (worth_get (h := h) (i := i) (hlt _ (top1_mem (h := h) (i := i) hne k)))
      refine ⟨_, rfl, _, rfl, c, _, _, _, rfl, rfl, hC, w1, _, rfl, _, rfl, c, _, _, _, rfl, rfl, hC, w2, _, _, rfl, rfl, _, rfl, ?_⟩
      refine ite2 (fun e => ?_) (fun e => ?_)
      · have e' := Int.ofNat_lt.mp (of_decide_eq_true e)
        refine ⟨_, rfl, some (.int ((o : Nat) : Int)), ?_, rfl⟩
        rw [top1_succ ho]
        unfold more
        rw [if_pos e']
        rfl
      · have e' : ¬ _ := fun z => of_decide_eq_false (Bool.eq_false_iff.mpr e) (Int.ofNat_lt.mpr z)
        refine ⟨some (.int ((o : Nat) : Int)), ?_, rfl⟩
        rw [top1_succ ho]
        unfold more
        rw [if_neg e']
        rfl
    · rintro σ H' ⟨v, rfl, rfl⟩
      rw [len_zi]
      exact ⟨_, rfl, q⟩
  · have hS' : SqT K H a ((zi l).map V.int) := SqT.of hS
    refine ⟨_, pss_cons (ps_set (i := 2) scMost.nd rfl (Or.inl rfl) (pe_ix ix_tup (pv 0) pe_int (fun _ _ => rfl)))
      (pss_cons (ps_for PassesOwn.never rfl (pi_tup (pv 0)) (pg_name (i := 3) scMost.nd rfl (Or.inl rfl))
        (pss_one (ps_if (pt_cmpR op_gt (pe_ix ix_list (pv 1) (pv 3) (fun _ _ => rfl)) (pe_ix ix_list (pv 1) (pv 2) (fun _ _ => rfl)) (nomark _))
          (pss_one (ps_set (i := 2) scMost.nd rfl (Or.inl rfl) (pv 3))) pss_nil)))
      (pss_one (ps_ret (pv 2)))), ?_⟩
    refine ⟨_, rfl, a, _, _, _, rfl, rfl, hS', a0, ?_⟩
    refine ⟨_, rfl, a, rfl, ⟨_, hS'⟩, for_tup (K := K) (a := a) (xs := (zi l).map V.int) (fun k σ H' => ∃ v : Option V, σ = [some (.ref a), some (.ref c), some (.int ((top1 h i l k : Nat) : Int)), v] ∧ H' = H)
      ⟨none, rfl, rfl⟩ (fun i σ H' _ ⟨_, _, e⟩ => by rw [e]; exact hS') ?_ ?_⟩
    · rintro k y σ H' hk ⟨v, rfl, rfl⟩
      obtain ⟨o, ho, rfl⟩ := get_zi hk
      have w1 := at_zi (worth_get (h := h) (i := i) (hlt o (List.mem_of_getElem? ho)))
      have w2 := at_zi (worth_get (h := h) (i := i) (hlt _ (top1_mem (h := h) (i := i) hne k)))
      refine ⟨_, rfl, _, rfl, c, _, _, _, rfl, rfl, hC, w1, _, rfl, _, rfl, c, _, _, _, rfl, rfl, hC, w2, _, _, rfl, rfl, _, rfl, ?_⟩
      refine ite2 (fun e => ?_) (fun e => ?_)
      · have e' := Int.ofNat_lt.mp (of_decide_eq_true e)
        refine ⟨_, rfl, some (.int ((o : Nat) : Int)), ?_, rfl⟩
        rw [top1_succ ho]
        unfold more
        rw [if_pos e']
        rfl
      · have e' : ¬ _ := fun z => of_decide_eq_false (Bool.eq_false_iff.mpr e) (Int.ofNat_lt.mpr z)
        refine ⟨some (.int ((o : Nat) : Int)), ?_, rfl⟩
        rw [top1_succ ho]
        unfold more
        rw [if_neg e']
        rfl
    · rintro σ H' ⟨v, rfl, rfl⟩
      rw [len_zi]
      exact ⟨_, rfl, q⟩
theorem has_most (D : Def K mg "worth_most" sMost ["free", "own_worth"]) : Has P w K mg base 1 "worth_most" ["free", "own_worth"] (spMost K) := by
  obtain ⟨f, fd, F, m, b⟩ := D
  exact ⟨f, fd, ok_most F, m, F.kp, b⟩
end
end Tw
/-! ### range(n) -/
namespace Tw
open PySem PySem.Spec PyProof.Rows L2 Tm
theorem rg_zi (N : Nat) : rgV 0 ((N : Nat) : Int) = (zi (List.range N)).map V.int := by
  unfold rgV zi
  rw [List.map_map]
  have e : ((N : Nat) : Int) - 0 = (N : Int) := Int.sub_zero _
  rw [e, Int.toNat_natCast]
  refine List.map_congr_left fun i _ => ?_
  show V.int ((0 : Int) + (i : Int)) = V.int (i : Int)
  rw [Int.zero_add]
end Tw
/-! ### taken_plainly -/
namespace Tw
open PySem PySem.Spec PyProof.Rows L2 Tm
abbrev sTaken : Stmt := top 11
def spTaken (K : PySem.W.Frag) : Sp := fun vs H Q _ => ∃ (a b : Addr) (n : Int) (s w : List Int) (N : Nat) (S W P : List Nat), vs = [.int ((N : Nat) : Int), .ref a, .ref b] ∧ Ok n s w N S W ∧ P.length ≤ N ∧ (∀ x ∈ P, x < S.length) ∧ SqL K H a ((zi P).map V.int) ∧ SqL K H b ((zi W).map V.int) ∧
  ∀ (H' : Hp) (p : Addr), Same H H' → H p = none → H' p = some (.lst ((zi ((Ks466.plain (house n s w) P (List.range N)).map Prod.snd)).map V.int)) → Q (.ref p) H'
theorem scTaken : FnScope ["n", "parties", "worth", "free", "taken", "party", "office"] ["n", "parties", "worth"] (defScope sTaken) := ⟨rfl, rfl, rfl, by decide +kernel, rfl, by decide +kernel, by decide +kernel⟩
section
variable {P : Program} {w : World} {K : PySem.W.Frag} {mg : Str → Option Value} {base : Heap}
theorem ok_taken {f : Addr} {fd : FuncData} (F : Fun K "taken_plainly" "taken_plainly" sTaken f fd) (range : mg "range" = none) (list : mg "list" = none) (M : Has P w K mg base 1 "worth_most" ["free", "own_worth"] (spMost K)) (O : Has P w K mg base 1 "worths_of" ["n", "party", "worth"] (spOwn K)) : FnOk P w K mg base CX0 2 f fd ["n", "parties", "worth"] (spTaken K) := by
  obtain ⟨fW, dW, G, mW, kW, bW⟩ := M
  obtain ⟨fO, dO, GO, mO, kO, bO⟩ := O
  refine F.ok scTaken (fun vs H Q E h => ?_) (fun cdv A outer s H vs Q E hr h => ?_)
  · obtain ⟨a, b, n, s, w, N, S, W, l, rfl, _⟩ := h
    rfl
  obtain ⟨a, b, n, s, w, N, S, W, l, rfl, o, hl, hlt, hA, hB, q⟩ := h
  refine ⟨_, pss_cons (ps_set (i := 3) scTaken.nd rfl (Or.inl rfl) (pe_listRg rfl rfl list (prg_1 rfl range (pv 0))))
    (pss_cons (ps_set (i := 4) scTaken.nd rfl (Or.inl rfl) (pe_lst pa_nil))
    (pss_cons (ps_for PassesOwn.never rfl (pi_list (pv 1)) (pg_name (i := 5) scTaken.nd rfl (Or.inl rfl))
      (pss_cons (ps_set (i := 6) scTaken.nd rfl (Or.inl rfl) (pe_call G hr rfl mW kW bW .nil pass0 (pa_cons (pv 3) (pa_cons (pe_call GO hr rfl mO kO bO .nil pass0 (pa_cons (pv 0) (pa_cons (pv 5) (pa_cons (pv 2) pa_nil)))) pa_nil))))
      (pss_cons (ps_expr (pe_bm PySem.F.plainAttrs_list PySem.F.slot_list_append PySem.F.type_list_append mt_append (pv 4) (pa_cons (pv 6) pa_nil)))
      (pss_one (ps_expr (pe_bm PySem.F.plainAttrs_list PySem.F.slot_list_remove PySem.F.type_list_remove mt_remove (pv 3) (pa_cons (pv 6) pa_nil)))))))
    (pss_one (ps_ret (pv 4))))), ?_⟩
  have n5 := o.n5
  refine ⟨_, rfl, _, rfl, RgOk.of_le (Int.le_refl 0) (by omega) (by decide) (by omega), fun fr hfr => ?_⟩
  rw [rg_zi]
  have g1 : Same H (upd H fr (.lst ((zi (List.range N)).map V.int))) := same_new hfr _
  refine ⟨(by show 0 ≤ sizeLine; decide), fun tk htk => ?_⟩
  have g2 := g1.trans (same_new htk (.lst []))
  have tk0 : H tk = none := g1.free htk
  have ne : fr ≠ tk := fun e => by
    rw [← e, upd_same] at htk
    cases htk
  refine ⟨_, rfl, a, rfl, ⟨_, g2.seq hA⟩, for_list (K := K) (a := a) (xs := (zi l).map V.int) (fun i σ H' => ∃ (v5 v6 : Option V) (done free : List Nat), σ = [some (.int ((N : Nat) : Int)), some (.ref a), some (.ref b), some (.ref fr), some (.ref tk), v5, v6] ∧ Same H H' ∧
      Took (house n s w) l N i done free ∧ H' fr = some (.lst ((zi free).map V.int)) ∧ H' tk = some (.lst ((zi done).map V.int)))
    ⟨none, none, [], List.range N, rfl, g2, took_zero _ _ _, ?_, upd_same⟩ (fun i σ H' _ ⟨_, _, _, _, _, g, _⟩ => g.seq hA) ?_ ?_⟩
  · rw [upd_ne ne]
    exact upd_same
  · rintro i y σ H' hi ⟨v5, v6, done, free, rfl, g, t, efr, etk⟩
    obtain ⟨p, hp, rfl⟩ := get_zi hi
    have hpS : p < S.length := hlt p (List.mem_of_getElem? hp)
    have hiN : i < N := Nat.lt_of_lt_of_le (List.getElem?_eq_some_iff.mp hp).1 hl
    have rl : ((house n s w).worth.getD p []).length = N := row_len o hpS
    have hF := took_free t hiN
    refine ⟨_, rfl, _, rfl, _, rfl, _, rfl, b, n, s, w, N, S, W, p, rfl, o, hpS, g.seq hB, fun H3 r gr hr' er => ?_⟩
    have g3 := g.trans gr
    have efr3 := gr _ _ efr
    have etk3 := gr _ _ etk
    refine ⟨fr, r, house n s w, p, free, rfl, hF, fun x hx => by rw [rl]; exact t.lt x hx, .inl (SqL.of efr3), SqL.of er, ?_⟩
    refine ⟨_, rfl, .inl ⟨rfl, _, SqL.of etk3⟩, _, rfl, tk, _, _, rfl, rfl, etk3, (by rw [len_zi, t.dl]; exact smallL (by omega)), ?_⟩
    have m := top1_mem (h := house n s w) (i := p) hF free.length
    obtain ⟨j, hj⟩ := List.getElem?_of_mem m
    have efr4 : (upd H3 tk (.lst ((zi done).map V.int ++ [V.int ((top1 (house n s w) p free free.length : Nat) : Int)]))) fr = some (.lst ((zi free).map V.int)) := by
      rw [upd_ne ne]
      exact efr3
    refine ⟨_, rfl, .inl ⟨rfl, _, SqL.of efr4⟩, _, rfl, fr, zi free, _, j, rfl, rfl, efr4, zi_get hj, fun k hk => zi_nodup t.nd hj hk, ?_⟩
    refine ⟨_, _, done ++ [top1 (house n s w) p free free.length], free.filter fun x => x != top1 (house n s w) p free free.length, rfl, same_mut (same_mut g3 tk0) hfr, took_more t hp hiN, ?_, ?_⟩
    · rw [upd_same, zi_erase, erase_filter t.nd hj]
    · rw [upd_ne (Ne.symm ne), upd_same, app_zi]
  · rintro σ H' ⟨v5, v6, done, free, rfl, g, t, efr, etk⟩
    rw [len_zi] at t
    rw [took_end t (Nat.le_refl _)] at etk
    exact ⟨_, rfl, q H' tk g tk0 etk⟩
theorem has_taken (D : Def K mg "taken_plainly" sTaken ["n", "parties", "worth"]) (range : mg "range" = none) (list : mg "list" = none) (M : Has P w K mg base 1 "worth_most" ["free", "own_worth"] (spMost K)) (O : Has P w K mg base 1 "worths_of" ["n", "party", "worth"] (spOwn K)) : Has P w K mg base 2 "taken_plainly" ["n", "parties", "worth"] (spTaken K) := by
  obtain ⟨f, fd, F, m, b⟩ := D
  exact ⟨f, fd, ok_taken F range list M O, m, F.kp, b⟩
end
end Tw
/-! ### plain -/
namespace Tw
open PySem PySem.Spec PyProof.Rows L2 Tm
abbrev sMain : Stmt := top 6
def spMain (K : PySem.W.Frag) : Sp := fun vs H Q _ => ∃ (a b : Addr) (n : Int) (s w : List Int), vs = [.int n, .ref a, .ref b] ∧ 0 ≤ n ∧ (∀ x ∈ s, 0 ≤ x) ∧ (∀ x ∈ w, 0 ≤ x) ∧ SqL K H a (s.map V.int) ∧ SqL K H b (w.map V.int) ∧
  ∀ (H' : Hp) (p : Addr), H' p = some (.lst ((PyKs466.plain n s w).map V.int)) → Q (.ref p) H'
theorem scMain : FnScope ["n", "seats", "worth"] ["n", "seats", "worth"] (defScope sMain) := ⟨rfl, rfl, rfl, by decide +kernel, rfl, by decide +kernel, by decide +kernel⟩
theorem fit_of {n : Int} {s w : List Int} {N : Nat} {S W : List Nat} (o : Ok n s w N S W) : Fit (house n s w) := by
  rw [o.eh]
  exact ⟨o.p1, o.p4, o.sb, o.n5⟩
section
variable {P : Program} {w : World} {K : PySem.W.Frag} {mg : Str → Option Value} {base : Heap}
theorem ok_main {f : Addr} {fd : FuncData} (F : Fun K "plain" "plain" sMain f fd) (no : ∃ u, mg "NOT_AS_TOLD" = some u ∧ RelV (.int (-22)) u) (TW : Has P w K mg base 2 "as_told" ["n", "seats", "worth"] (spTold K)) (CW : Has P w K mg base 2 "choosers" ["n", "seats"] (spChoosers K))
    (MW : Has P w K mg base 2 "taken_plainly" ["n", "parties", "worth"] (spTaken K)) : FnOk P w K mg base CX0 3 f fd ["n", "seats", "worth"] (spMain K) := by
  obtain ⟨fT, dT, GT, mT, kT, bT⟩ := TW
  obtain ⟨fC, dC, GC, mC, kC, bC⟩ := CW
  obtain ⟨fM, dM, GM, mM, kM, bM⟩ := MW
  obtain ⟨u, gn, rn⟩ := no
  refine F.ok scMain (fun vs H Q E h => ?_) (fun cdv A outer s H vs Q E hr h => ?_)
  · obtain ⟨a, b, n, s, w, rfl, _⟩ := h
    rfl
  obtain ⟨a, b, n, s, w, rfl, h0, hs, hw, hS, hW, q⟩ := h
  refine ⟨_, pss_cons (ps_if (pt_not (pt_val (pe_call GT hr rfl mT kT bT .nil pass0 (pa_cons (pv 0) (pa_cons (pv 1) (pa_cons (pv 2) pa_nil)))))) (pss_one (ps_ret (pe_lst (pa_cons (pe_glob rfl gn rn) pa_nil)))) pss_nil)
    (pss_one (ps_ret (pe_op op_cat (pe_lst (pa_cons (pv 0) pa_nil)) (pe_call GM hr rfl mM kM bM .nil pass0 (pa_cons (pv 0) (pa_cons (pe_call GC hr rfl mC kC bC .nil pass0 (pa_cons (pv 0) (pa_cons (pv 1) pa_nil))) (pa_cons (pv 2) pa_nil))))))), ?_⟩
  rw [plain_is h0 hs hw] at q
  refine ⟨_, rfl, _, rfl, _, rfl, a, b, n, s, w, rfl, h0, hS, hW, _, rfl, ?_⟩
  cases t : told n s w with
  | false =>
    refine iteT ⟨(by show 1 ≤ sizeLine; decide), fun p hp => ?_⟩
    rw [t, if_neg Bool.false_ne_true] at q
    exact q _ p upd_same
  | true =>
    rw [t, if_pos rfl] at q
    refine iteF ⟨_, rfl, (by show 1 ≤ sizeLine; decide), fun p hp => ?_⟩
    obtain ⟨N, S, W, o⟩ := ok_of h0 hs hw t
    have eN : (house n s w).offices = N := by rw [o.eh]
    have eS : (house n s w).seats = S := by rw [o.eh]
    have en : n = (((house n s w).offices : Nat) : Int) := by rw [eN]; exact o.en
    have n5 := o.n5
    have gp := same_new hp (.lst [.int n])
    refine ⟨_, rfl, _, rfl, _, rfl, a, house n s w, ?_, fit_of o, ?_, fun H1 p1 g1 hp1 e1 => ?_⟩
    · rw [← en]
      rfl
    · rw [eS, ← o.es]
      exact gp.seq hS
    · refine ⟨_, rfl, p1, b, n, s, w, N, S, W, Ks466.order (house n s w), ?_, o, ?_, ?_, SqL.of e1, ?_, fun H2 p2 g2 hp2 e2 => ?_⟩
      · rw [← o.en]
        rfl
      · rw [order_length, eN]
        exact Nat.le_refl _
      · intro x hx
        rw [← eS]
        exact turns_lt (house n s w) (fit_of o).p1 _ x hx
      · rw [← o.ew]
        exact (gp.trans g1).seq hW
      · refine ⟨p, p2, _, _, rfl, rfl, g2 _ _ (g1 _ _ upd_same), e2, ?_, fun r hr' => ?_⟩
        · rw [len_zi, List.length_map, plain_length List.nodup_range (by rw [order_length, List.length_range, eN]; exact Nat.le_refl _), order_length, eN]
          exact small (by show 1 + _ ≤ 1000; omega)
        · rw [eN] at q
          exact q _ r upd_same
end
end Tw
namespace Tw
open PySem PySem.Spec PyProof.Rows L2 Tm
theorem all_mk {P : Program} {w : World} {K : PySem.W.Frag} {h : Heap} {mg : Str → Option Value} {fa f0 f1 f2 f3 f4 f5 f6 f7 : Addr} (X : K.In h) (G : h.Ns mainGlobals mg) (hfa : mg "plain" = some (.ref fa))
    {od0 an0 od1 an1 od2 an2 od3 an3 od4 an4 od5 an5 od6 an6 od7 an7 : Option Addr} {sl0 sl1 sl2 sl3 sl4 sl5 sl6 sl7 : Array (Option Value)} {oc0 kV0 dc0 pm0 cd0 ct0 oc1 kV1 dc1 pm1 cd1 ct1 oc2 kV2 dc2 pm2 cd2 ct2 oc3 kV3 dc3 pm3 cd3 ct3 oc4 kV4 dc4 pm4 cd4 ct4 oc5 kV5 dc5 pm5 cd5 ct5 oc6 kV6 dc6 pm6 cd6 ct6 oc7 kV7 dc7 pm7 cd7 ct7 : Value} {tk0 tk1 tk2 tk3 tk4 : Tok}
    (a0 : PySem.W.nsIn K mainGlobals "plain" = some (some (.ref f0))) (l0 : K.lookup f0 = some ⟨oc0, od0, .func (PySem.W.fnOf "plain" "plain" (defArgs sMain) (defBody sMain) (defScope sMain) .none kV0 dc0 pm0 an0 cd0 ct0), sl0⟩) (c0 : PySem.W.codeIn K cd0 "plain" = true) (k0 : PySem.W.keepIn K (.ref f0) = true)
    (a1 : PySem.W.nsIn K mainGlobals "as_told" = some (some (.ref f1))) (l1 : K.lookup f1 = some ⟨oc1, od1, .func (PySem.W.fnOf "as_told" "as_told" (defArgs sTold) (defBody sTold) (defScope sTold) .none kV1 dc1 pm1 an1 cd1 ct1), sl1⟩) (c1 : PySem.W.codeIn K cd1 "as_told" = true) (k1 : PySem.W.keepIn K (.ref f1) = true)
    (a2 : PySem.W.nsIn K mainGlobals "within" = some (some (.ref f2))) (l2 : K.lookup f2 = some ⟨oc2, od2, .func (PySem.W.fnOf "within" "within" (defArgs sWithin) (defBody sWithin) (defScope sWithin) .none kV2 dc2 pm2 an2 cd2 ct2), sl2⟩) (c2 : PySem.W.codeIn K cd2 "within" = true) (k2 : PySem.W.keepIn K (.ref f2) = true)
    (a3 : PySem.W.nsIn K mainGlobals "choosers" = some (some (.ref f3))) (l3 : K.lookup f3 = some ⟨oc3, od3, .func (PySem.W.fnOf "choosers" "choosers" (defArgs sChoosers) (defBody sChoosers) (defScope sChoosers) .none kV3 dc3 pm3 an3 cd3 ct3), sl3⟩) (c3 : PySem.W.codeIn K cd3 "choosers" = true) (k3 : PySem.W.keepIn K (.ref f3) = true)
    (a4 : PySem.W.nsIn K mainGlobals "party_on_turn" = some (some (.ref f4))) (l4 : K.lookup f4 = some ⟨oc4, od4, .func (PySem.W.fnOf "party_on_turn" "party_on_turn" (defArgs sParty) (defBody sParty) (defScope sParty) .none kV4 dc4 pm4 an4 cd4 ct4), sl4⟩) (c4 : PySem.W.codeIn K cd4 "party_on_turn" = true) (k4 : PySem.W.keepIn K (.ref f4) = true)
    (a5 : PySem.W.nsIn K mainGlobals "taken_plainly" = some (some (.ref f5))) (l5 : K.lookup f5 = some ⟨oc5, od5, .func (PySem.W.fnOf "taken_plainly" "taken_plainly" (defArgs sTaken) (defBody sTaken) (defScope sTaken) .none kV5 dc5 pm5 an5 cd5 ct5), sl5⟩) (c5 : PySem.W.codeIn K cd5 "taken_plainly" = true) (k5 : PySem.W.keepIn K (.ref f5) = true)
    (a6 : PySem.W.nsIn K mainGlobals "worths_of" = some (some (.ref f6))) (l6 : K.lookup f6 = some ⟨oc6, od6, .func (PySem.W.fnOf "worths_of" "worths_of" (defArgs sOwn) (defBody sOwn) (defScope sOwn) .none kV6 dc6 pm6 an6 cd6 ct6), sl6⟩) (c6 : PySem.W.codeIn K cd6 "worths_of" = true) (k6 : PySem.W.keepIn K (.ref f6) = true)
    (a7 : PySem.W.nsIn K mainGlobals "worth_most" = some (some (.ref f7))) (l7 : K.lookup f7 = some ⟨oc7, od7, .func (PySem.W.fnOf "worth_most" "worth_most" (defArgs sMost) (defBody sMost) (defScope sMost) .none kV7 dc7 pm7 an7 cd7 ct7), sl7⟩) (c7 : PySem.W.codeIn K cd7 "worth_most" = true) (k7 : PySem.W.keepIn K (.ref f7) = true)
    (cn0 : PySem.W.nsIn K mainGlobals "MOST_OFFICES" = some (some (.int 5 tk0)))
    (cn1 : PySem.W.nsIn K mainGlobals "MOST_PARTIES" = some (some (.int 4 tk1)))
    (cn2 : PySem.W.nsIn K mainGlobals "MOST_SEATS" = some (some (.int 200 tk2)))
    (cn3 : PySem.W.nsIn K mainGlobals "MOST_WORTH" = some (some (.int 50 tk3)))
    (cn4 : PySem.W.nsIn K mainGlobals "NOT_AS_TOLD" = some (some (.int (-22) tk4)))
    (z0 : PySem.W.nsIn K mainGlobals "len" = some none)
    (z1 : PySem.W.nsIn K mainGlobals "range" = some none)
    (z2 : PySem.W.nsIn K mainGlobals "list" = some none)
    : ∃ fd : FuncData, (∀ (s : Shared) (us : List Value), us.length = (["n", "seats", "worth"] : List Str).length → BindsTo s fd ⟨us, []⟩ ((["n", "seats", "worth"] : List Str).zip us)) ∧ ∀ base : Heap, K.In base → base.Ns mainGlobals mg → FnOk P w K mg base CX0 3 fa fd ["n", "seats", "worth"] (spMain K) := by
  have e := hfa.symm.trans (PySem.W.mg_of X G a0)
  cases e
  have F0 := fun_mk (st := sMain) l0 c0 k0
  have F1 := fun_mk (st := sTold) l1 c1 k1
  have b1 := F1.binds (ps := ["n", "seats", "worth"]) fun _ _ _ _ _ _ us hl => match us, hl with | [_, _, _], _ => rfl
  have D_as_told : Def K mg "as_told" sTold ["n", "seats", "worth"] := ⟨f1, _, F1, PySem.W.mg_of X G a1, b1⟩
  have F2 := fun_mk (st := sWithin) l2 c2 k2
  have b2 := F2.binds (ps := ["numbers", "least", "most"]) fun _ _ _ _ _ _ us hl => match us, hl with | [_, _, _], _ => rfl
  have D_within : Def K mg "within" sWithin ["numbers", "least", "most"] := ⟨f2, _, F2, PySem.W.mg_of X G a2, b2⟩
  have F3 := fun_mk (st := sChoosers) l3 c3 k3
  have b3 := F3.binds (ps := ["n", "seats"]) fun _ _ _ _ _ _ us hl => match us, hl with | [_, _], _ => rfl
  have D_choosers : Def K mg "choosers" sChoosers ["n", "seats"] := ⟨f3, _, F3, PySem.W.mg_of X G a3, b3⟩
  have F4 := fun_mk (st := sParty) l4 c4 k4
  have b4 := F4.binds (ps := ["seats", "had"]) fun _ _ _ _ _ _ us hl => match us, hl with | [_, _], _ => rfl
  have D_party_on_turn : Def K mg "party_on_turn" sParty ["seats", "had"] := ⟨f4, _, F4, PySem.W.mg_of X G a4, b4⟩
  have F5 := fun_mk (st := sTaken) l5 c5 k5
  have b5 := F5.binds (ps := ["n", "parties", "worth"]) fun _ _ _ _ _ _ us hl => match us, hl with | [_, _, _], _ => rfl
  have D_taken_plainly : Def K mg "taken_plainly" sTaken ["n", "parties", "worth"] := ⟨f5, _, F5, PySem.W.mg_of X G a5, b5⟩
  have F6 := fun_mk (st := sOwn) l6 c6 k6
  have b6 := F6.binds (ps := ["n", "party", "worth"]) fun _ _ _ _ _ _ us hl => match us, hl with | [_, _, _], _ => rfl
  have D_worths_of : Def K mg "worths_of" sOwn ["n", "party", "worth"] := ⟨f6, _, F6, PySem.W.mg_of X G a6, b6⟩
  have F7 := fun_mk (st := sMost) l7 c7 k7
  have b7 := F7.binds (ps := ["free", "own_worth"]) fun _ _ _ _ _ _ us hl => match us, hl with | [_, _], _ => rfl
  have D_worth_most : Def K mg "worth_most" sMost ["free", "own_worth"] := ⟨f7, _, F7, PySem.W.mg_of X G a7, b7⟩
  have z_len := PySem.W.mg_none_of X G z0
  have z_range := PySem.W.mg_none_of X G z1
  have z_list := PySem.W.mg_none_of X G z2
  have B : Bounds mg := ⟨⟨_, PySem.W.mg_of X G cn0, _, rfl⟩, ⟨_, PySem.W.mg_of X G cn1, _, rfl⟩, ⟨_, PySem.W.mg_of X G cn2, _, rfl⟩, ⟨_, PySem.W.mg_of X G cn3, _, rfl⟩⟩
  have no : ∃ u, mg "NOT_AS_TOLD" = some u ∧ RelV (.int (-22)) u := ⟨_, PySem.W.mg_of X G cn4, _, rfl⟩
  refine ⟨PySem.W.fnOf "plain" "plain" (defArgs sMain) (defBody sMain) (defScope sMain) .none kV0 dc0 pm0 an0 cd0 ct0, fun s us hu => match us, hu with | [_, _, _], _ => .of_eq rfl, fun base _ _ => ?_⟩
  have hTold := has_told (P := P) (w := w) (base := base) D_as_told B z_len (has_within D_within)
  have hCh := has_choosers (P := P) (w := w) (base := base) D_choosers z_len z_range (has_party D_party_on_turn z_len z_range)
  have hMo := has_most (P := P) (w := w) (base := base) D_worth_most
  have hOw := has_own (P := P) (w := w) (base := base) D_worths_of
  have hTk := has_taken (P := P) (w := w) (base := base) D_taken_plainly z_range z_list hMo hOw
  exact ok_main F0 no hTold hCh hTk
end Tw
open PySem PySem.W PyProof.Rows
set_option maxRecDepth 100000 in
set_option maxHeartbeats 8000000 in
theorem PySem.Challenge.cw_turns_s02_plain_holds : PySem.Challenge.rw_turns_s02_plain.Holds := by
  w_on; k_headS; (case hw => exact ⟨[.int 0, .list [], .list []], by decide +kernel, by decide +kernel⟩)
  k_fillS
  refine L2.walk_specK (r := PySem.Challenge.rw_turns_s02_plain) (k := 3) (CX := L2.CX0) (ps := ["n", "seats", "worth"]) (sp := Tw.spMain) (by decide +kernel) rfl rfl ⟨rfl, by decide, by decide⟩ (fun w h Y => PySem.W.kIn_of Y) ?F ?S (fun _ _ _ _ z => z)
  case F =>
    intro w mg fa h Y KX G hmg
    refine' Tw.all_mk KX G hmg ?a0 ?l0 ?c0 ?k0 ?a1 ?l1 ?c1 ?k1 ?a2 ?l2 ?c2 ?k2 ?a3 ?l3 ?c3 ?k3 ?a4 ?l4 ?c4 ?k4 ?a5 ?l5 ?c5 ?k5 ?a6 ?l6 ?c6 ?k6 ?a7 ?l7 ?c7 ?k7 ?cn0 ?cn1 ?cn2 ?cn3 ?cn4 ?z0 ?z1 ?z2
    (case a0 => k_is)
    (case l0 => k_is)
    (case c0 => k_is)
    (case k0 => k_is)
    (case a1 => k_is)
    (case l1 => k_is)
    (case c1 => k_is)
    (case k1 => k_is)
    (case a2 => k_is)
    (case l2 => k_is)
    (case c2 => k_is)
    (case k2 => k_is)
    (case a3 => k_is)
    (case l3 => k_is)
    (case c3 => k_is)
    (case k3 => k_is)
    (case a4 => k_is)
    (case l4 => k_is)
    (case c4 => k_is)
    (case k4 => k_is)
    (case a5 => k_is)
    (case l5 => k_is)
    (case c5 => k_is)
    (case k5 => k_is)
    (case a6 => k_is)
    (case l6 => k_is)
    (case c6 => k_is)
    (case k6 => k_is)
    (case a7 => k_is)
    (case l7 => k_is)
    (case c7 => k_is)
    (case k7 => k_is)
    (case cn0 => k_is)
    (case cn1 => k_is)
    (case cn2 => k_is)
    (case cn3 => k_is)
    (case cn4 => k_is)
    (case z0 => k_is)
    (case z1 => k_is)
    (case z2 => k_is)
  case S =>
    intro K H xs a hO hwi hask hx
    cases hx with
    | cons h1 h2 =>
      cases h2 with
      | cons h2 h3 =>
        cases h3 with
        | cons h3 h4 =>
          cases h4
          cases h1
          cases h2 with
          | lst hs ha =>
            cases h3 with
            | lst hs2 ha2 =>
              have e := L2.ints_dw a.2.1 _ ha
              have e2 := L2.ints_dw a.2.2.1 _ ha2
              subst e
              subst e2
              have q : (Codec.inInt 0 4294967295 a.1 && ((Codec.inLen 0 8 a.2.1 && a.2.1.all (Codec.inInt 0 4294967295)) && ((Codec.inLen 0 28 a.2.2.1 && a.2.2.1.all (Codec.inInt 0 4294967295)) && true))) = true := hwi
              simp only [Bool.and_eq_true] at q
              obtain ⟨q1, ⟨_, q2⟩, ⟨_, q3⟩, _⟩ := q
              exact ⟨_, _, a.1, a.2.1, a.2.2.1, rfl, (Codec.inInt_iff.mp q1).1, fun x hx => (Codec.inInt_iff.mp (List.all_eq_true.mp q2 x hx)).1, fun x hx => (Codec.inInt_iff.mp (List.all_eq_true.mp q3 x hx)).1, hs, hs2, fun H' p hp => .lst (L2.SqL.of hp) (L2.dw_ints _)⟩
#print axioms PySem.Challenge.cw_turns_s02_plain_holds
