import PyProof.Rows.All
import Wide.All
import OpenK.AllK
import Wide.FinOn
import Open.SpecLaws
import KE.OsGo
import HandS.ForSpec
import HandS.Evl
import HandS.Conv
import HandS.SetFor
import HandS.Dict
import HandS.Comp
import HandS.Iter
import HandS.Zip
import HandS.TupAny
import KE.KDictDisplayH
import PyProof.AutoSeq1
import PyProof.Rows.ExtendIn
import PySem.Challenge.RW_turns_s06_swaps
set_option Elab.async false
set_option linter.all false
set_option maxRecDepth 100000
set_option maxHeartbeats 2000000
/-! The mathematics of turns, apart from Python: what the program's loops make is what the specification's functions tell. -/
namespace Tm
open Ks466
/-! ### numbers as ints -/
def zi (l : List Nat) : List Int := l.map fun (k : Nat) => (k : Int)
theorem ints_zi (l : List Nat) : Ks466Neutral.ints l = zi l := rfl
theorem zi_length (l : List Nat) : (zi l).length = l.length := by unfold zi; rw [List.length_map]
theorem zi_get {l : List Nat} {i k : Nat} (h : l[i]? = some k) : (zi l)[i]? = some (k : Int) := by unfold zi; rw [List.getElem?_map, h]; rfl
theorem zi_append (l r : List Nat) : zi (l ++ r) = zi l ++ zi r := by unfold zi; rw [List.map_append]
theorem nats_nonneg : ∀ {l : List Int}, (∀ x ∈ l, 0 ≤ x) → zi (Ks466Neutral.nats l) = l
  | [], _ => rfl
  | x :: r, h => by
    have ih := nats_nonneg (l := r) fun y hy => h y (List.mem_cons_of_mem _ hy)
    have h0 := h x List.mem_cons_self
    show ((x.toNat : Nat) : Int) :: zi (Ks466Neutral.nats r) = x :: r
    rw [ih, Int.toNat_of_nonneg h0]
/-! ### whether all is as told -/
def inside (lo hi : Int) (l : List Int) : Bool := l.all fun x => !(decide (x < lo) || decide (x > hi))
def told (n : Int) (s w : List Int) : Bool := !decide (n > 5) && !(decide ((s.length : Int) < 1) || decide ((s.length : Int) > 4)) && !decide ((w.length : Int) ≠ n * (s.length : Int)) && (inside 1 200 s && inside 0 50 w)
def house (n : Int) (s w : List Int) : House := { seats := Ks466Neutral.nats s, offices := n.toNat, worth := cut n.toNat (Ks466Neutral.nats s).length (Ks466Neutral.nats w) }
theorem cut_length (n : Nat) : ∀ (k : Nat) (l : List Nat), (cut n k l).length = k
  | 0, _ => rfl
  | k + 1, l => by
    show (cut n k (l.drop n)).length + 1 = k + 1
    rw [cut_length]
theorem cut_getD (n : Nat) : ∀ (k : Nat) (l : List Nat) (i : Nat), i < k → (cut n k l).getD i [] = (l.drop (i * n)).take n
  | 0, _, i, h => absurd h (Nat.not_lt_zero i)
  | k + 1, l, 0, _ => by
    show l.take n = _
    rw [Nat.zero_mul, List.drop_zero]
  | k + 1, l, i + 1, h => by
    show (cut n k (l.drop n)).getD i [] = _
    rw [cut_getD n k (l.drop n) i (Nat.lt_of_succ_lt_succ h), List.drop_drop, Nat.succ_mul, Nat.add_comm]
/-- every row has n, and all is said of the rows that is said of the whole -/
theorem cut_all (n : Nat) (p : Nat → Bool) : ∀ (k : Nat) (l : List Nat), l.length = n * k → ((cut n k l).all fun r => r.length == n && r.all p) = l.all p
  | 0, l, h => by
    have e : l = [] := List.eq_nil_of_length_eq_zero (by rw [h, Nat.mul_zero])
    subst e
    rfl
  | k + 1, l, h => by
    have h1 : n ≤ l.length := by rw [h, Nat.mul_succ]; exact Nat.le_add_left _ _
    have h2 : (l.drop n).length = n * k := by rw [List.length_drop, h, Nat.mul_succ]; omega
    have h3 : (l.take n).length = n := by rw [List.length_take]; omega
    show (((l.take n).length == n && (l.take n).all p) && (cut n k (l.drop n)).all fun r => r.length == n && r.all p) = l.all p
    rw [cut_all n p k (l.drop n) h2, h3, beq_self_eq_true, Bool.true_and, ← List.all_append, List.take_append_drop]
theorem inside_nats {lo hi : Nat} : ∀ {l : List Int}, (∀ x ∈ l, 0 ≤ x) → inside (lo : Int) (hi : Int) l = (Ks466Neutral.nats l).all fun v => decide (lo ≤ v) && decide (v ≤ hi)
  | [], _ => rfl
  | x :: r, h => by
    have ih := inside_nats (lo := lo) (hi := hi) (l := r) fun y hy => h y (List.mem_cons_of_mem _ hy)
    have h0 := h x List.mem_cons_self
    show (!(decide (x < (lo : Int)) || decide (x > (hi : Int))) && inside lo hi r) = ((decide (lo ≤ x.toNat) && decide (x.toNat ≤ hi)) && (Ks466Neutral.nats r).all fun v => decide (lo ≤ v) && decide (v ≤ hi))
    rw [ih]
    congr 1
    rw [Bool.eq_iff_iff]
    simp only [Bool.not_eq_true', Bool.or_eq_false_iff, decide_eq_false_iff_not, Bool.and_eq_true, decide_eq_true_eq]
    omega
theorem nats_length (l : List Int) : (Ks466Neutral.nats l).length = l.length := by unfold Ks466Neutral.nats; rw [List.length_map]
theorem given_told {n : Int} {s w : List Int} (hn : 0 ≤ n) (hs : ∀ x ∈ s, 0 ≤ x) (hw : ∀ x ∈ w, 0 ≤ x) (f : House → Ans) :
    given n.toNat (Ks466Neutral.nats s) (Ks466Neutral.nats w) f = if told n s w = true then f (house n s w) else no (-22) := by
  unfold given
  rw [nats_length, nats_length]
  have es := inside_nats (lo := 1) (hi := 200) hs
  have ew := inside_nats (lo := 0) (hi := 50) hw
  have ew' : inside 0 50 w = (Ks466Neutral.nats w).all fun v => decide (v ≤ 50) := by
    refine ew.trans ?_
    congr 1
  by_cases c : OFFICES < n.toNat ∨ PARTIES < s.length ∨ w.length ≠ n.toNat * s.length
  · rw [if_pos c]
    have t : ¬ told n s w = true := by
      intro t
      unfold told at t
      simp only [Bool.and_eq_true, Bool.not_eq_true', Bool.or_eq_false_iff, decide_eq_false_iff_not] at t
      obtain ⟨⟨⟨t1, t2, t3⟩, t4⟩, _⟩ := t
      have t5 : (w.length : Int) = n * (s.length : Int) := by
        rcases Decidable.em ((w.length : Int) = n * (s.length : Int)) with q | q
        · exact q
        · exact absurd q t4
      have t6 : w.length = n.toNat * s.length := by
        have q : ((n.toNat * s.length : Nat) : Int) = n * (s.length : Int) := by rw [Int.natCast_mul, Int.toNat_of_nonneg hn]
        omega
      unfold OFFICES PARTIES at c
      rcases c with c | c | c
      · omega
      · omega
      · exact c t6
    rw [if_neg t]
  · rw [if_neg c]
    have c1 : n.toNat ≤ 5 := by unfold OFFICES at c; omega
    have c2 : s.length ≤ 4 := by unfold PARTIES at c; omega
    have c3 : w.length = n.toNat * s.length := by
      rcases Decidable.em (w.length = n.toNat * s.length) with q | q
      · exact q
      · exact absurd (Or.inr (Or.inr q)) c
    show (if okHouse { seats := Ks466Neutral.nats s, offices := n.toNat, worth := cut n.toNat s.length (Ks466Neutral.nats w) } = true then f { seats := Ks466Neutral.nats s, offices := n.toNat, worth := cut n.toNat s.length (Ks466Neutral.nats w) } else no (-22)) = _
    have eh : house n s w = { seats := Ks466Neutral.nats s, offices := n.toNat, worth := cut n.toNat s.length (Ks466Neutral.nats w) } := by unfold house; rw [nats_length]
    rw [← eh]
    have ek : okHouse (house n s w) = told n s w := by
      rw [eh]
      unfold okHouse told
      have a1 := cut_all n.toNat (fun v => decide (v ≤ WORTH)) s.length (Ks466Neutral.nats w) (by rw [nats_length]; exact c3)
      have c4 : (w.length : Int) = n * (s.length : Int) := by
        have q : ((n.toNat * s.length : Nat) : Int) = n * (s.length : Int) := by rw [Int.natCast_mul, Int.toNat_of_nonneg hn]
        omega
      show (decide (1 ≤ (Ks466Neutral.nats s).length) && decide ((Ks466Neutral.nats s).length ≤ PARTIES) && decide (n.toNat ≤ OFFICES) && (cut n.toNat s.length (Ks466Neutral.nats w)).length == (Ks466Neutral.nats s).length && ((Ks466Neutral.nats s).all fun q => decide (1 ≤ q) && decide (q ≤ SEATS)) && ((cut n.toNat s.length (Ks466Neutral.nats w)).all fun r => r.length == n.toNat && r.all fun v => decide (v ≤ WORTH))) = _
      rw [a1, cut_length, nats_length, beq_self_eq_true]
      have d1 : decide ((w.length : Int) ≠ n * (s.length : Int)) = false := by simp [c4]
      have d2 : decide (n > 5) = false := decide_eq_false (by omega)
      have d3 : decide (n.toNat ≤ OFFICES) = true := decide_eq_true (by unfold OFFICES; omega)
      have d4 : decide (s.length ≤ PARTIES) = true := decide_eq_true (by unfold PARTIES; omega)
      have d5 : decide ((s.length : Int) > 4) = false := decide_eq_false (by omega)
      have d6 : (!decide ((s.length : Int) < 1)) = decide (1 ≤ s.length) := by
        rw [Bool.eq_iff_iff]
        simp only [Bool.not_eq_true', decide_eq_false_iff_not, decide_eq_true_eq]
        omega
      rw [d1, d2, d3, d4, d5, Bool.or_false, d6]
      simp only [Bool.not_false, Bool.and_true, Bool.true_and]
      rw [Bool.and_assoc]
      congr 1
      have es' : inside 1 200 s = (Ks466Neutral.nats s).all fun v => decide (1 ≤ v) && decide (v ≤ 200) := es
      rw [es', ew']
      rfl
    rw [ek]
/-! ### what told gives -/
structure Ok (n : Int) (s w : List Int) (N : Nat) (S W : List Nat) : Prop where
  en : n = (N : Int)
  es : s = zi S
  ew : w = zi W
  n5 : N ≤ 5
  p1 : 1 ≤ S.length
  p4 : S.length ≤ 4
  wl : W.length = N * S.length
  sb : ∀ x ∈ S, x ≤ 200
  eh : house n s w = { seats := S, offices := N, worth := cut N S.length W }
theorem ok_of {n : Int} {s w : List Int} (hn : 0 ≤ n) (hs : ∀ x ∈ s, 0 ≤ x) (hw : ∀ x ∈ w, 0 ≤ x) (t : told n s w = true) : ∃ (N : Nat) (S W : List Nat), Ok n s w N S W := by
  unfold told at t
  simp only [Bool.and_eq_true, Bool.not_eq_true', Bool.or_eq_false_iff, decide_eq_false_iff_not] at t
  obtain ⟨⟨⟨t1, t2, t3⟩, t4⟩, t7, t8⟩ := t
  have t5 : (w.length : Int) = n * (s.length : Int) := by
    rcases Decidable.em ((w.length : Int) = n * (s.length : Int)) with q | q
    · exact q
    · exact absurd q t4
  have es := inside_nats (lo := 1) (hi := 200) hs
  refine ⟨n.toNat, Ks466Neutral.nats s, Ks466Neutral.nats w, (Int.toNat_of_nonneg hn).symm, (nats_nonneg hs).symm, (nats_nonneg hw).symm, by omega, by rw [nats_length]; omega, by rw [nats_length]; omega, ?_, ?_, rfl⟩
  · rw [nats_length, nats_length]
    have q : ((n.toNat * s.length : Nat) : Int) = n * (s.length : Int) := by rw [Int.natCast_mul, Int.toNat_of_nonneg hn]
    omega
  · intro x hx
    have e2 : (Ks466Neutral.nats s).all (fun v => decide (1 ≤ v) && decide (v ≤ 200)) = true := es.symm.trans t7
    have q := List.all_eq_true.mp e2 x hx
    simp only [Bool.and_eq_true, decide_eq_true_eq] at q
    exact q.2
/-! ### whose turn it is -/
def pick (h : House) (l : List Nat) (b i : Nat) : Nat := if seat h b * (had l i + 1) < seat h i * (had l b + 1) then i else b
def best (h : House) (l : List Nat) (k : Nat) : Nat := (List.range k).foldl (pick h l) 0
theorem best_succ (h : House) (l : List Nat) (k : Nat) : best h l (k + 1) = pick h l (best h l k) k := by
  unfold best
  rw [List.range_succ, List.foldl_append]
  rfl
theorem best_one (h : House) (l : List Nat) : best h l 1 = 0 := by
  rw [best_succ]
  show pick h l 0 0 = 0
  unfold pick
  rw [if_neg (Nat.lt_irrefl _)]
theorem turn_best (h : House) (l : List Nat) : turn h l = best h l h.seats.length := rfl
theorem best_lt (h : House) (l : List Nat) : ∀ k, best h l (k + 1) < k + 1
  | 0 => by rw [best_one]; exact Nat.zero_lt_one
  | k + 1 => by
    rw [best_succ]
    have ih := best_lt h l k
    unfold pick
    split
    · exact Nat.lt_succ_self _
    · omega
theorem turn_lt (h : House) (l : List Nat) (hp : 1 ≤ h.seats.length) : turn h l < h.seats.length := by
  rw [turn_best]
  have q := best_lt h l (h.seats.length - 1)
  have e : h.seats.length - 1 + 1 = h.seats.length := by omega
  rw [e] at q
  exact q
theorem turns_succ (h : House) : ∀ (k : Nat) (l : List Nat), turns h (k + 1) l = turns h k l ++ [turn h (turns h k l)]
  | 0, _ => rfl
  | k + 1, l => by
    show turns h (k + 1) (l ++ [turn h l]) = _
    rw [turns_succ h k]
    rfl
theorem turns_length (h : House) : ∀ (k : Nat) (l : List Nat), (turns h k l).length = l.length + k
  | 0, _ => rfl
  | k + 1, l => by
    rw [turns_succ, List.length_append, turns_length h k]
    rfl
theorem turns_lt (h : House) (hp : 1 ≤ h.seats.length) : ∀ (k : Nat) (x : Nat), x ∈ turns h k [] → x < h.seats.length
  | 0, x, hx => by cases hx
  | k + 1, x, hx => by
    rw [turns_succ] at hx
    rcases List.mem_append.mp hx with q | q
    · exact turns_lt h hp k x q
    · rw [List.mem_singleton.mp q]
      exact turn_lt h _ hp
theorem order_length (h : House) : (order h).length = h.offices := by
  unfold order
  rw [turns_length]
  exact Nat.zero_add _
theorem had_app (l : List Nat) (t i : Nat) : had (l ++ [t]) i = had l i + if t = i then 1 else 0 := by
  unfold had
  rw [List.filter_append, List.length_append]
  congr 1
  by_cases c : t = i
  · subst c
    simp
  · have c' : (t == i) = false := by simpa using c
    simp [c, c']
theorem had_le (l : List Nat) (i : Nat) : had l i ≤ l.length := List.length_filter_le _ _
/-- what each of m parties has had -/
def hads (m : Nat) (l : List Nat) : List Nat := (List.range m).map (had l)
theorem hads_length (m : Nat) (l : List Nat) : (hads m l).length = m := by unfold hads; rw [List.length_map, List.length_range]
theorem hads_get {m i : Nat} (l : List Nat) (h : i < m) : (hads m l)[i]? = some (had l i) := by
  unfold hads
  rw [List.getElem?_map, List.getElem?_range h]
  rfl
theorem hads_nil (m : Nat) : hads m [] = List.replicate m 0 := by
  unfold hads
  apply List.ext_getElem?
  intro i
  by_cases c : i < m
  · rw [List.getElem?_map, List.getElem?_range c, List.getElem?_replicate, if_pos c]
    rfl
  · rw [List.getElem?_map, List.getElem?_eq_none (by rw [List.length_range]; omega), List.getElem?_replicate, if_neg c]
    rfl
theorem hads_app (m : Nat) (l : List Nat) (t : Nat) : hads m (l ++ [t]) = (hads m l).set t (had l t + 1) := by
  apply List.ext_getElem?
  intro i
  by_cases c : i < m
  · rw [hads_get _ c, List.getElem?_set]
    by_cases e : t = i
    · subst e
      rw [if_pos rfl, if_pos (by rw [hads_length]; exact c), had_app, if_pos rfl]
    · rw [if_neg e, hads_get _ c, had_app, if_neg e]
      rfl
  · rw [List.getElem?_eq_none (by rw [hads_length]; omega), List.getElem?_eq_none (by rw [List.length_set, hads_length]; omega)]
theorem seat_get {h : House} {i : Nat} (c : i < h.seats.length) : h.seats[i]? = some (seat h i) := by
  unfold seat
  rw [List.getD_eq_getElem?_getD, List.getElem?_eq_getElem c]
  rfl
theorem seat_le {h : House} (hb : ∀ x ∈ h.seats, x ≤ 200) {i : Nat} (c : i < h.seats.length) : seat h i ≤ 200 := hb _ (List.mem_of_getElem? (seat_get c))
/-! ### the answers -/
theorem order_is {n : Int} {s w : List Int} (hn : 0 ≤ n) (hs : ∀ x ∈ s, 0 ≤ x) (hw : ∀ x ∈ w, 0 ≤ x) :
    PyKs466.order n s w = if told n s w = true then n :: zi (order (house n s w)) else [-22] := by
  show Ks466Neutral.out (given n.toNat (Ks466Neutral.nats s) (Ks466Neutral.nats w) fun h => rows (order h)) = _
  rw [given_told hn hs hw]
  split
  · show ((order (house n s w)).length : Int) :: zi (order (house n s w)) = _
    rw [order_length]
    show ((n.toNat : Nat) : Int) :: _ = _
    rw [Int.toNat_of_nonneg hn]
  · rfl
end Tm
/-! ### who takes which office plainly -/
namespace Tm
open Ks466
def more (h : House) (i : Nat) (b o : Nat) : Nat := if worth h i b < worth h i o then o else b
/-- the first of those left that are worth most; what the loop holds behind k of them -/
def top1 (h : House) (i : Nat) (F : List Nat) (k : Nat) : Nat := (F.take k).foldl (more h i) (F.headD 0)
theorem top1_zero (h : House) (i : Nat) (F : List Nat) : top1 h i F 0 = F.headD 0 := rfl
theorem top1_succ {h : House} {i : Nat} {F : List Nat} {k o : Nat} (e : F[k]? = some o) : top1 h i F (k + 1) = more h i (top1 h i F k) o := by
  unfold top1
  rw [List.take_add_one, e, List.foldl_append]
  rfl
theorem more_self (h : House) (i a : Nat) : more h i a a = a := by
  unfold more
  rw [if_neg (Nat.lt_irrefl _)]
theorem dear_top1 {h : House} {i : Nat} {F : List Nat} (hF : F ≠ []) : dear h i F = some (top1 h i F F.length) := by
  cases F with
  | nil => exact absurd rfl hF
  | cons a l =>
    unfold top1
    rw [List.take_length]
    show some (l.foldl (more h i) a) = some (l.foldl (more h i) (more h i a a))
    rw [more_self]
theorem top1_mem {h : House} {i : Nat} {F : List Nat} (hF : F ≠ []) : ∀ k, top1 h i F k ∈ F
  | 0 => by
    cases F with
    | nil => exact absurd rfl hF
    | cons a l => exact List.mem_cons_self
  | k + 1 => by
    have ih := top1_mem (h := h) (i := i) hF k
    cases e : F[k]? with
    | none =>
      have q : top1 h i F (k + 1) = top1 h i F k := by
        unfold top1
        rw [List.take_add_one, e]
        show (F.take k ++ []).foldl _ _ = _
        rw [List.append_nil]
      rw [q]
      exact ih
    | some o =>
      rw [top1_succ e]
      unfold more
      split
      · exact List.mem_of_getElem? e
      · exact ih
/-- a list without one of its own, if none stands there twice -/
theorem filter_ne_self : ∀ {F : List Nat} {o : Nat}, o ∉ F → (F.filter fun x => x != o) = F
  | [], _, _ => rfl
  | a :: l, o, h => by
    have h1 : a ≠ o := fun e => h (by rw [e]; exact List.mem_cons_self)
    have h2 : o ∉ l := fun e => h (List.mem_cons_of_mem _ e)
    have h3 : (a != o) = true := by simpa using h1
    rw [List.filter_cons, if_pos h3, filter_ne_self h2]
theorem erase_filter : ∀ {F : List Nat} {o : Nat} {j : Nat}, F.Nodup → F[j]? = some o → F.eraseIdx j = F.filter fun x => x != o
  | [], o, j, _, h => by simp at h
  | a :: l, o, 0, hn, h => by
    have e : a = o := Option.some.inj h
    subst e
    have h2 : a ∉ l := (List.nodup_cons.mp hn).1
    have h3 : ¬ (a != a) = true := by simp
    rw [List.filter_cons, if_neg h3, filter_ne_self h2]
    rfl
  | a :: l, o, j + 1, hn, h => by
    have h' : l[j]? = some o := h
    have h2 : a ≠ o := fun e => (List.nodup_cons.mp hn).1 (by rw [e]; exact List.mem_of_getElem? h')
    have h3 : (a != o) = true := by simpa using h2
    rw [List.filter_cons, if_pos h3, ← erase_filter (List.nodup_cons.mp hn).2 h']
    rfl
theorem filter_less {F : List Nat} {o : Nat} (hn : F.Nodup) (h : o ∈ F) : (F.filter fun x => x != o).length + 1 = F.length := by
  obtain ⟨j, hj⟩ := List.getElem?_of_mem h
  rw [← erase_filter hn hj, List.length_eraseIdx]
  have q := (List.getElem?_eq_some_iff.mp hj).1
  rw [if_pos q]
  omega
theorem zi_nodup {F : List Nat} (hn : F.Nodup) {j m o : Nat} (hj : F[j]? = some o) (hm : m < j) : (zi F)[m]? ≠ some (o : Int) := by
  intro e
  unfold zi at e
  rw [List.getElem?_map] at e
  cases q : F[m]? with
  | none =>
    rw [q] at e
    cases e
  | some k =>
    rw [q] at e
    have e1 : ((k : Nat) : Int) = (o : Int) := Option.some.inj e
    have e2 : k = o := by omega
    subst e2
    have l1 := (List.getElem?_eq_some_iff.mp q).1
    have l2 := (List.getElem?_eq_some_iff.mp hj).1
    have e3 : F[m]'l1 = F[j]'l2 := by
      rw [(List.getElem?_eq_some_iff.mp q).2, (List.getElem?_eq_some_iff.mp hj).2]
    exact List.pairwise_iff_getElem.mp hn m j l1 l2 hm e3
theorem zi_erase : ∀ (F : List Nat) (j : Nat), (zi F).eraseIdx j = zi (F.eraseIdx j)
  | [], _ => rfl
  | _ :: _, 0 => rfl
  | a :: l, j + 1 => by
    show (a : Int) :: (zi l).eraseIdx j = (a : Int) :: zi (l.eraseIdx j)
    rw [zi_erase l j]
/-- one turn of the taking -/
theorem plain_cons {h : House} {i : Nat} {r F : List Nat} (hF : F ≠ []) : Ks466.plain h (i :: r) F = (i, top1 h i F F.length) :: Ks466.plain h r (F.filter fun x => x != top1 h i F F.length) := by
  show (match dear h i F with
    | none => []
    | some o => (i, o) :: Ks466.plain h r (F.filter fun x => x != o)) = _
  rw [dear_top1 hF]
theorem plain_length {h : House} : ∀ {r F : List Nat}, F.Nodup → r.length ≤ F.length → (Ks466.plain h r F).length = r.length
  | [], _, _, _ => rfl
  | i :: r, F, hn, hl => by
    have hF : F ≠ [] := fun e => by
      rw [e] at hl
      exact absurd hl (Nat.not_succ_le_zero _)
    have m := top1_mem (h := h) (i := i) hF F.length
    have q := filter_less hn m
    rw [plain_cons hF, List.length_cons, plain_length (List.Nodup.sublist List.filter_sublist hn) (by
      have hl' : r.length + 1 ≤ F.length := hl
      omega), List.length_cons]
/-- behind some turns: what is taken, what is still to come, what is free -/
structure Took (h : House) (P : List Nat) (N : Nat) (i : Nat) (done free : List Nat) : Prop where
  eq : (Ks466.plain h P (List.range N)).map Prod.snd = done ++ (Ks466.plain h (P.drop i) free).map Prod.snd
  nd : free.Nodup
  len : free.length + i = N
  lt : ∀ x ∈ free, x < N
  dl : done.length = i
theorem took_zero (h : House) (P : List Nat) (N : Nat) : Took h P N 0 [] (List.range N) :=
  ⟨by rw [List.drop_zero, List.nil_append], List.nodup_range, by rw [List.length_range]; rfl, fun x hx => List.mem_range.mp hx, rfl⟩
theorem took_free {h : House} {P : List Nat} {N i : Nat} {done free : List Nat} (t : Took h P N i done free) (hi : i < N) : free ≠ [] := fun e => by
  have q := t.len
  rw [e, List.length_nil] at q
  omega
theorem took_more {h : House} {P : List Nat} {N i p : Nat} {done free : List Nat} (t : Took h P N i done free) (hp : P[i]? = some p) (hi : i < N) :
    Took h P N (i + 1) (done ++ [top1 h p free free.length]) (free.filter fun x => x != top1 h p free free.length) := by
  have hF := took_free t hi
  have m := top1_mem (h := h) (i := p) hF free.length
  have q := filter_less t.nd m
  have tl := t.len
  refine ⟨?_, List.Nodup.sublist List.filter_sublist t.nd, by omega, fun x hx => t.lt x (List.mem_filter.mp hx).1, by rw [List.length_append, t.dl]; rfl⟩
  have hl := (List.getElem?_eq_some_iff.mp hp).1
  have e : P.drop i = p :: P.drop (i + 1) := by
    rw [List.drop_eq_getElem_cons hl, (List.getElem?_eq_some_iff.mp hp).2]
  rw [t.eq, e, plain_cons hF, List.map_cons, List.append_assoc]
  rfl
theorem took_end {h : House} {P : List Nat} {N i : Nat} {done free : List Nat} (t : Took h P N i done free) (hi : P.length ≤ i) : done = (Ks466.plain h P (List.range N)).map Prod.snd := by
  rw [t.eq, List.drop_eq_nil_of_le hi]
  show done = done ++ []
  rw [List.append_nil]
/-- a party's own row -/
theorem row_of {n : Int} {s w : List Int} {N : Nat} {S W : List Nat} (o : Ok n s w N S W) {p : Nat} (hp : p < S.length) : (house n s w).worth.getD p [] = (W.drop (p * N)).take N := by
  rw [o.eh]
  exact cut_getD N S.length W p hp
theorem row_length {n : Int} {s w : List Int} {N : Nat} {S W : List Nat} (o : Ok n s w N S W) {p : Nat} (hp : p < S.length) : ((W.drop (p * N)).take N).length = N := by
  rw [List.length_take, List.length_drop, o.wl]
  have q : (p + 1) * N ≤ S.length * N := Nat.mul_le_mul_right N hp
  rw [Nat.succ_mul, Nat.mul_comm S.length N] at q
  omega
theorem plain_is {n : Int} {s w : List Int} (hn : 0 ≤ n) (hs : ∀ x ∈ s, 0 ≤ x) (hw : ∀ x ∈ w, 0 ≤ x) :
    PyKs466.plain n s w = if told n s w = true then n :: zi ((Ks466.plain (house n s w) (order (house n s w)) (List.range (house n s w).offices)).map Prod.snd) else [-22] := by
  show Ks466Neutral.out (given n.toNat (Ks466Neutral.nats s) (Ks466Neutral.nats w) fun h => Ks466.told (way h 0)) = _
  rw [given_told hn hs hw]
  split
  · show (((Ks466.plain (house n s w) (order (house n s w)) (List.range (house n s w).offices)).map Prod.snd).length : Int) :: zi ((Ks466.plain (house n s w) (order (house n s w)) (List.range (house n s w).offices)).map Prod.snd) = _
    rw [List.length_map, plain_length List.nodup_range (by rw [order_length, List.length_range]; exact Nat.le_refl _), order_length]
    show ((n.toNat : Nat) : Int) :: _ = _
    rw [Int.toNat_of_nonneg hn]
  · rfl
end Tm
/-! ### takings: who takes what, whichever way it is chosen -/
namespace Tm
open Ks466
/-- the parties P take one office each, one behind another, each of those that are still free -/
inductive Tk : List Nat → List Nat → List (Nat × Nat) → Prop
  | nil (F : List Nat) : Tk [] F []
  | cons {i o : Nat} {r F : List Nat} {l : List (Nat × Nat)} : o ∈ F → Tk r (F.filter fun x => x != o) l → Tk (i :: r) F ((i, o) :: l)
theorem Tk.fst : ∀ {P F : List Nat} {l : List (Nat × Nat)}, Tk P F l → l.map Prod.fst = P
  | _, _, _, .nil _ => rfl
  | _, _, _, .cons (i := i) _ t => congrArg (i :: ·) t.fst
theorem Tk.length {P F : List Nat} {l : List (Nat × Nat)} (t : Tk P F l) : l.length = P.length := by
  have q := congrArg List.length t.fst
  rw [List.length_map] at q
  exact q
theorem Tk.mem : ∀ {P F : List Nat} {l : List (Nat × Nat)}, Tk P F l → ∀ x ∈ l, x.2 ∈ F
  | _, _, _, .nil _, x, hx => by cases hx
  | _, _, _, .cons ho t, x, hx => by
    rcases List.mem_cons.mp hx with q | q
    · rw [q]
      exact ho
    · exact (List.mem_filter.mp (t.mem x q)).1
theorem Tk.nodup : ∀ {P F : List Nat} {l : List (Nat × Nat)}, Tk P F l → (l.map Prod.snd).Nodup
  | _, _, _, .nil _ => List.nodup_nil
  | _, _, _, .cons (o := o) (l := l) ho t => by
    rw [List.map_cons]
    refine List.nodup_cons.mpr ⟨fun hm => ?_, t.nodup⟩
    obtain ⟨x, hx, e⟩ := List.mem_map.mp hm
    have q := (List.mem_filter.mp (t.mem x hx)).2
    rw [e] at q
    simp at q
theorem nodup_filter {F : List Nat} {p : Nat → Bool} (hn : F.Nodup) : (F.filter p).Nodup := List.Nodup.sublist List.filter_sublist hn
/-- as many parties as offices: every office is taken -/
theorem Tk.all : ∀ {P F : List Nat} {l : List (Nat × Nat)}, Tk P F l → F.Nodup → P.length = F.length → ∀ o ∈ F, o ∈ l.map Prod.snd
  | _, _, _, .nil _, _, e, o, ho => by
    have q := List.eq_nil_of_length_eq_zero e.symm
    rw [q] at ho
    cases ho
  | _, _, _, .cons (i := i) (o := a) (r := r) (F := F) (l := l) ha t, hn, e, o, ho => by
    rw [List.map_cons]
    by_cases c : o = a
    · rw [c]
      exact List.mem_cons_self
    · have q := filter_less hn ha
      have e' : r.length + 1 = F.length := e
      exact List.mem_cons_of_mem _ (t.all (nodup_filter hn) (by omega) o (List.mem_filter.mpr ⟨ho, by simpa using c⟩))
/-! ### what a party gets -/
theorem gets_acc (h : House) (i : Nat) : ∀ (l : List (Nat × Nat)) (k : Nat), (l.foldl (fun k x => if x.1 = i then k + worth h i x.2 else k) k) = k + gets h l i
  | [], k => rfl
  | x :: l, k => by
    unfold gets
    rw [List.foldl_cons, List.foldl_cons, gets_acc h i l, gets_acc h i l]
    split <;> omega
theorem gets_nil (h : House) (i : Nat) : gets h [] i = 0 := rfl
theorem gets_cons (h : House) (i j o : Nat) (l : List (Nat × Nat)) : gets h ((j, o) :: l) i = (if j = i then worth h i o else 0) + gets h l i := by
  show (l.foldl (fun k x => if x.1 = i then k + worth h i x.2 else k) (if j = i then 0 + worth h i o else 0)) = _
  rw [gets_acc]
  split <;> omega
theorem gets_app (h : House) (i : Nat) (l r : List (Nat × Nat)) : gets h (l ++ r) i = gets h l i + gets h r i := by
  show ((l ++ r).foldl (fun k x => if x.1 = i then k + worth h i x.2 else k) 0) = _
  rw [List.foldl_append, gets_acc]
  rfl
/-! ### choosing by what is got in the end -/
def cand (rec : List Nat → List (Nat × Nat)) (i : Nat) (F : List Nat) (o : Nat) : List (Nat × Nat) := (i, o) :: rec (F.filter fun x => x != o)
def bet (h : House) (i : Nat) (b p : List (Nat × Nat)) : List (Nat × Nat) := if gets h b i < gets h p i then p else b
/-- the first of the free ones by which i gets most; what a loop holds behind k of them -/
def bestOf (h : House) (rec : List Nat → List (Nat × Nat)) (i : Nat) (F : List Nat) (k : Nat) : List (Nat × Nat) := (F.take k).foldl (fun b o => bet h i b (cand rec i F o)) (cand rec i F (F.headD 0))
theorem bestOf_zero (h : House) (rec : List Nat → List (Nat × Nat)) (i : Nat) (F : List Nat) : bestOf h rec i F 0 = cand rec i F (F.headD 0) := rfl
theorem bestOf_succ {h : House} {rec : List Nat → List (Nat × Nat)} {i : Nat} {F : List Nat} {k o : Nat} (e : F[k]? = some o) : bestOf h rec i F (k + 1) = bet h i (bestOf h rec i F k) (cand rec i F o) := by
  unfold bestOf
  rw [List.take_add_one, e, List.foldl_append]
  rfl
theorem bet_self (h : House) (i : Nat) (b : List (Nat × Nat)) : bet h i b b = b := by
  unfold bet
  rw [if_neg (Nat.lt_irrefl _)]
theorem bestOf_one {h : House} {rec : List Nat → List (Nat × Nat)} {i : Nat} {F : List Nat} (hF : F ≠ []) : bestOf h rec i F 1 = cand rec i F (F.headD 0) := by
  cases F with
  | nil => exact absurd rfl hF
  | cons a l =>
    rw [bestOf_succ (k := 0) (o := a) rfl, bestOf_zero]
    exact bet_self h i _
/-- what the loop holds is one of the choices -/
theorem bestOf_is {h : House} {rec : List Nat → List (Nat × Nat)} {i : Nat} {F : List Nat} (hF : F ≠ []) : ∀ k, ∃ o ∈ F, bestOf h rec i F k = cand rec i F o
  | 0 => by
    cases F with
    | nil => exact absurd rfl hF
    | cons a l => exact ⟨a, List.mem_cons_self, rfl⟩
  | k + 1 => by
    obtain ⟨o, ho, e⟩ := bestOf_is (h := h) (rec := rec) (i := i) hF k
    cases q : F[k]? with
    | none =>
      refine ⟨o, ho, ?_⟩
      rw [← e]
      unfold bestOf
      rw [List.take_add_one, q]
      show (F.take k ++ []).foldl _ _ = _
      rw [List.append_nil]
    | some a =>
      rw [bestOf_succ q]
      unfold bet
      split
      · exact ⟨a, List.mem_of_getElem? q, rfl⟩
      · exact ⟨o, ho, e⟩
theorem fold_best {h : House} {rec : List Nat → List (Nat × Nat)} {i a : Nat} {l : List Nat} : (l.foldl (fun b o => bet h i b (cand rec i (a :: l) o)) (cand rec i (a :: l) a)) = bestOf h rec i (a :: l) (a :: l).length := by
  unfold bestOf
  rw [List.take_length]
  show _ = l.foldl _ (bet h i (cand rec i (a :: l) a) (cand rec i (a :: l) a))
  rw [bet_self]
theorem ahead_cons {h : House} {i : Nat} {r F : List Nat} (hF : F ≠ []) : Ks466.ahead h (i :: r) F = bestOf h (Ks466.ahead h r) i F F.length := by
  cases F with
  | nil => exact absurd rfl hF
  | cons a l => exact fold_best
theorem alone_self {h : House} {j : Nat} {r F : List Nat} (hF : F ≠ []) : Ks466.alone h j (j :: r) F = bestOf h (Ks466.alone h j r) j F F.length := by
  cases F with
  | nil => exact absurd rfl hF
  | cons a l =>
    rw [← fold_best]
    show (if j = j then _ else _) = _
    rw [if_pos rfl]
    rfl
theorem alone_other {h : House} {i j : Nat} {r F : List Nat} (hF : F ≠ []) (ne : i ≠ j) : Ks466.alone h j (i :: r) F = (i, top1 h i F F.length) :: Ks466.alone h j r (F.filter fun x => x != top1 h i F F.length) := by
  show (if i = j then _ else match dear h i F with
    | none => []
    | some o => (i, o) :: Ks466.alone h j r (F.filter fun x => x != o)) = _
  rw [if_neg ne, dear_top1 hF]
theorem ne_of_len {i : Nat} {r F : List Nat} (hl : (i :: r).length ≤ F.length) : F ≠ [] := fun e => by
  rw [e] at hl
  exact absurd hl (Nat.not_succ_le_zero _)
theorem len_filter {i o : Nat} {r F : List Nat} (hn : F.Nodup) (hl : (i :: r).length ≤ F.length) (ho : o ∈ F) : r.length ≤ (F.filter fun x => x != o).length := by
  have q := filter_less hn ho
  have hl' : r.length + 1 ≤ F.length := hl
  omega
theorem tk_plain (h : House) : ∀ {P F : List Nat}, F.Nodup → P.length ≤ F.length → Tk P F (Ks466.plain h P F)
  | [], F, _, _ => .nil F
  | i :: r, F, hn, hl => by
    have hF := ne_of_len hl
    have m := top1_mem (h := h) (i := i) hF F.length
    rw [plain_cons hF]
    exact .cons m (tk_plain h (nodup_filter hn) (len_filter hn hl m))
theorem tk_ahead (h : House) : ∀ {P F : List Nat}, F.Nodup → P.length ≤ F.length → Tk P F (Ks466.ahead h P F)
  | [], F, _, _ => .nil F
  | i :: r, F, hn, hl => by
    have hF := ne_of_len hl
    rw [ahead_cons hF]
    obtain ⟨o, ho, e⟩ := bestOf_is (h := h) (rec := Ks466.ahead h r) (i := i) hF F.length
    rw [e]
    exact .cons ho (tk_ahead h (nodup_filter hn) (len_filter hn hl ho))
theorem tk_alone (h : House) (j : Nat) : ∀ {P F : List Nat}, F.Nodup → P.length ≤ F.length → Tk P F (Ks466.alone h j P F)
  | [], F, _, _ => .nil F
  | i :: r, F, hn, hl => by
    have hF := ne_of_len hl
    by_cases c : i = j
    · subst c
      rw [alone_self hF]
      obtain ⟨o, ho, e⟩ := bestOf_is (h := h) (rec := Ks466.alone h i r) (i := i) hF F.length
      rw [e]
      exact .cons ho (tk_alone h i (nodup_filter hn) (len_filter hn hl ho))
    · have m := top1_mem (h := h) (i := i) hF F.length
      rw [alone_other hF c]
      exact .cons m (tk_alone h j (nodup_filter hn) (len_filter hn hl m))
/-- plainly or ahead, of the whole house -/
theorem tk_way (h : House) (k : Nat) : Tk (order h) (List.range h.offices) (way h k) := by
  unfold way
  split
  · exact tk_plain h List.nodup_range (by rw [order_length, List.length_range]; exact Nat.le_refl _)
  · exact tk_ahead h List.nodup_range (by rw [order_length, List.length_range]; exact Nat.le_refl _)
theorem way_length (h : House) (k : Nat) : (way h k).length = h.offices := (tk_way h k).length.trans (order_length h)
theorem way_fst (h : House) (k : Nat) : (way h k).map Prod.fst = order h := (tk_way h k).fst
/-! ### the owner of an office -/
theorem any_owner {l : List (Nat × Nat)} (g : Nat × Nat → Bool) : ∀ {i o : Nat}, (l.map Prod.snd).Nodup → (i, o) ∈ l → (l.any fun x => x.2 == o && g x) = g (i, o) := by
  intro i o hn hm
  cases e : g (i, o) with
  | true =>
    refine List.any_eq_true.mpr ⟨(i, o), hm, ?_⟩
    show ((o == o) && g (i, o)) = true
    rw [e, beq_self_eq_true]
    rfl
  | false =>
    refine Bool.eq_false_iff.mpr fun q => ?_
    obtain ⟨x, hx, hq⟩ := List.any_eq_true.mp q
    rw [Bool.and_eq_true] at hq
    have e1 : x.2 = o := by simpa using hq.1
    have e2 : x = (i, o) := by
      obtain ⟨a, ha⟩ := List.getElem?_of_mem hx
      obtain ⟨b, hb⟩ := List.getElem?_of_mem hm
      have la := (List.getElem?_eq_some_iff.mp ha).1
      have lb := (List.getElem?_eq_some_iff.mp hb).1
      have sa : (l.map Prod.snd)[a]? = some o := by
        rw [List.getElem?_map, ha, ← e1]
        rfl
      have sb : (l.map Prod.snd)[b]? = some o := by
        rw [List.getElem?_map, hb]
        rfl
      have ab : a = b := by
        have la' : a < (l.map Prod.snd).length := (List.getElem?_eq_some_iff.mp sa).1
        have lb' : b < (l.map Prod.snd).length := (List.getElem?_eq_some_iff.mp sb).1
        have ea : (l.map Prod.snd)[a]'la' = (l.map Prod.snd)[b]'lb' := by
          rw [(List.getElem?_eq_some_iff.mp sa).2, (List.getElem?_eq_some_iff.mp sb).2]
        rcases Nat.lt_trichotomy a b with c | c | c
        · exact absurd ea (List.pairwise_iff_getElem.mp hn a b la' lb' c)
        · exact c
        · exact absurd ea.symm (List.pairwise_iff_getElem.mp hn b a lb' la' c)
      rw [ab, hb] at ha
      exact (Option.some.inj ha).symm
    rw [e2, e] at hq
    exact Bool.noConfusion hq.2
/-! ### the answers -/
theorem ahead_is {n : Int} {s w : List Int} (hn : 0 ≤ n) (hs : ∀ x ∈ s, 0 ≤ x) (hw : ∀ x ∈ w, 0 ≤ x) :
    PyKs466.ahead n s w = if told n s w = true then n :: zi ((Ks466.ahead (house n s w) (order (house n s w)) (List.range (house n s w).offices)).map Prod.snd) else [-22] := by
  show Ks466Neutral.out (given n.toNat (Ks466Neutral.nats s) (Ks466Neutral.nats w) fun h => Ks466.told (way h 1)) = _
  rw [given_told hn hs hw]
  split
  · show (((way (house n s w) 1).map Prod.snd).length : Int) :: zi ((way (house n s w) 1).map Prod.snd) = _
    rw [List.length_map, way_length]
    show ((n.toNat : Nat) : Int) :: _ = _
    rw [Int.toNat_of_nonneg hn]
    rfl
  · rfl
theorem alone_is {n i : Int} {s w : List Int} (hn : 0 ≤ n) (hs : ∀ x ∈ s, 0 ≤ x) (hw : ∀ x ∈ w, 0 ≤ x) :
    PyKs466.alone n i s w = if told n s w = true then (if s.length ≤ i.toNat then [-2] else
      [((gets (house n s w) (Ks466.alone (house n s w) i.toNat (order (house n s w)) (List.range (house n s w).offices)) i.toNat : Nat) : Int), ((gets (house n s w) (way (house n s w) 0) i.toNat : Nat) : Int)]) else [-22] := by
  show Ks466Neutral.out (given n.toNat (Ks466Neutral.nats s) (Ks466Neutral.nats w) fun h => if h.seats.length ≤ i.toNat then no (-2) else { ret := gets h (Ks466.alone h i.toNat (Ks466.order h) (offices h)) i.toNat, out := [gets h (way h 0) i.toNat] }) = _
  rw [given_told hn hs hw]
  split
  · have e : (house n s w).seats.length = s.length := nats_length s
    show Ks466Neutral.out (if (house n s w).seats.length ≤ i.toNat then _ else _) = _
    rw [e]
    split
    · rfl
    · rfl
  · rfl
theorem gains_is {n k : Int} {s w : List Int} (hn : 0 ≤ n) (hs : ∀ x ∈ s, 0 ≤ x) (hw : ∀ x ∈ w, 0 ≤ x) :
    PyKs466.gains n k s w = if told n s w = true then (if 1 < k.toNat then [-22] else
      (s.length : Int) :: zi ((List.range s.length).map (gets (house n s w) (way (house n s w) k.toNat)))) else [-22] := by
  show Ks466Neutral.out (given n.toNat (Ks466Neutral.nats s) (Ks466Neutral.nats w) fun h => if 1 < k.toNat then no (-22) else rows ((parties h).map (gets h (way h k.toNat)))) = _
  rw [given_told hn hs hw]
  split
  · have e : (house n s w).seats.length = s.length := nats_length s
    show Ks466Neutral.out (if 1 < k.toNat then _ else rows ((List.range (house n s w).seats.length).map (gets (house n s w) (way (house n s w) k.toNat)))) = _
    rw [e]
    split
    · rfl
    · show ((((List.range s.length).map (gets (house n s w) (way (house n s w) k.toNat))).length : Nat) : Int) :: zi _ = _
      rw [List.length_map, List.length_range]
      rfl
  · rfl
theorem swaps_is {n k : Int} {s w : List Int} (hn : 0 ≤ n) (hs : ∀ x ∈ s, 0 ≤ x) (hw : ∀ x ∈ w, 0 ≤ x) :
    PyKs466.swaps n k s w = if told n s w = true then (if 1 < k.toNat then [-22] else
      ((swaps (house n s w) (way (house n s w) k.toNat)).length : Int) :: zi ((swaps (house n s w) (way (house n s w) k.toNat)).flatMap fun x => [x.1, x.2])) else [-22] := by
  show Ks466Neutral.out (given n.toNat (Ks466Neutral.nats s) (Ks466Neutral.nats w) fun h => if 1 < k.toNat then no (-22) else { ret := (Ks466.swaps h (way h k.toNat)).length, out := (Ks466.swaps h (way h k.toNat)).flatMap fun x => [x.1, x.2] }) = _
  rw [given_told hn hs hw]
  split
  · split
    · rfl
    · rfl
  · rfl
end Tm
/-! ### some look ahead, the others choose plainly; every part of the offices -/
namespace Tm
open Ks466
/-- those of L look to the end, all others take what is worth most to them -/
def go (h : House) (L : List Nat) : List Nat → List Nat → List (Nat × Nat)
  | [], _ => []
  | i :: r, F => if i ∈ L then bestOf h (go h L r) i F F.length else (i, top1 h i F F.length) :: go h L r (F.filter fun x => x != top1 h i F F.length)
theorem go_in {h : House} {L : List Nat} {i : Nat} {r F : List Nat} (e : i ∈ L) : go h L (i :: r) F = bestOf h (go h L r) i F F.length := if_pos e
theorem go_out {h : House} {L : List Nat} {i : Nat} {r F : List Nat} (e : i ∉ L) : go h L (i :: r) F = (i, top1 h i F F.length) :: go h L r (F.filter fun x => x != top1 h i F F.length) := if_neg e
theorem tk_go (h : House) (L : List Nat) : ∀ {P F : List Nat}, F.Nodup → P.length ≤ F.length → Tk P F (go h L P F)
  | [], F, _, _ => .nil F
  | i :: r, F, hn, hl => by
    have hF := ne_of_len hl
    by_cases c : i ∈ L
    · rw [go_in c]
      obtain ⟨o, ho, e⟩ := bestOf_is (h := h) (rec := go h L r) (i := i) hF F.length
      rw [e]
      exact .cons ho (tk_go h L (nodup_filter hn) (len_filter hn hl ho))
    · have m := top1_mem (h := h) (i := i) hF F.length
      rw [go_out c]
      exact .cons m (tk_go h L (nodup_filter hn) (len_filter hn hl m))
theorem bestOf_congr {h : House} {f g : List Nat → List (Nat × Nat)} {i : Nat} {F : List Nat} (hF : F ≠ []) (e : ∀ o ∈ F, f (F.filter fun x => x != o) = g (F.filter fun x => x != o)) : ∀ k, bestOf h f i F k = bestOf h g i F k
  | 0 => by
    cases F with
    | nil => exact absurd rfl hF
    | cons a l =>
      exact congrArg ((i, a) :: ·) (e a List.mem_cons_self)
  | k + 1 => by
    have ih := bestOf_congr (h := h) (i := i) hF e k
    cases q : F[k]? with
    | none =>
      unfold bestOf at ih ⊢
      rw [List.take_add_one, q]
      show (F.take k ++ []).foldl _ _ = (F.take k ++ []).foldl _ _
      rw [List.append_nil]
      exact ih
    | some a =>
      rw [bestOf_succ q, bestOf_succ q, ih]
      unfold cand
      rw [e a (List.mem_of_getElem? q)]
theorem go_ahead (h : House) (L : List Nat) : ∀ {P F : List Nat}, (∀ i ∈ P, i ∈ L) → F.Nodup → P.length ≤ F.length → go h L P F = Ks466.ahead h P F
  | [], _, _, _, _ => rfl
  | i :: r, F, hp, hn, hl => by
    have hF := ne_of_len hl
    rw [go_in (hp i List.mem_cons_self), ahead_cons hF]
    exact bestOf_congr hF (fun o ho => go_ahead h L (fun j hj => hp j (List.mem_cons_of_mem _ hj)) (nodup_filter hn) (len_filter hn hl ho)) _
theorem go_alone (h : House) (j : Nat) : ∀ {P F : List Nat}, F.Nodup → P.length ≤ F.length → go h [j] P F = Ks466.alone h j P F
  | [], _, _, _ => rfl
  | i :: r, F, hn, hl => by
    have hF := ne_of_len hl
    by_cases c : i = j
    · subst c
      rw [go_in List.mem_cons_self, alone_self hF]
      exact bestOf_congr hF (fun o ho => go_alone h i (nodup_filter hn) (len_filter hn hl ho)) _
    · have m := top1_mem (h := h) (i := i) hF F.length
      have c' : i ∉ [j] := fun q => c (List.mem_singleton.mp q)
      rw [go_out c', alone_other hF c, go_alone h j (nodup_filter hn) (len_filter hn hl m)]
/-! ### the best of some courses -/
def bestC (h : House) (i : Nat) (cs : List (List (Nat × Nat))) (k : Nat) : List (Nat × Nat) := (cs.take k).foldl (bet h i) (cs.headD [])
theorem bestC_zero (h : House) (i : Nat) (cs : List (List (Nat × Nat))) : bestC h i cs 0 = cs.headD [] := rfl
theorem bestC_succ {h : House} {i : Nat} {cs : List (List (Nat × Nat))} {k : Nat} {c : List (Nat × Nat)} (e : cs[k]? = some c) : bestC h i cs (k + 1) = bet h i (bestC h i cs k) c := by
  unfold bestC
  rw [List.take_add_one, e, List.foldl_append]
  rfl
theorem bestC_mem {h : House} {i : Nat} {cs : List (List (Nat × Nat))} (hc : cs ≠ []) : ∀ k, bestC h i cs k ∈ cs
  | 0 => by
    cases cs with
    | nil => exact absurd rfl hc
    | cons a l => exact List.mem_cons_self
  | k + 1 => by
    have ih := bestC_mem (h := h) (i := i) hc k
    cases e : cs[k]? with
    | none =>
      have q : bestC h i cs (k + 1) = bestC h i cs k := by
        unfold bestC
        rw [List.take_add_one, e]
        show (cs.take k ++ []).foldl _ _ = _
        rw [List.append_nil]
      rw [q]
      exact ih
    | some o =>
      rw [bestC_succ e]
      unfold bet
      split
      · exact List.mem_of_getElem? e
      · exact ih
theorem bestC_cand {h : House} {rec : List Nat → List (Nat × Nat)} {i : Nat} {F : List Nat} (hF : F ≠ []) : bestC h i (F.map (cand rec i F)) (F.map (cand rec i F)).length = bestOf h rec i F F.length := by
  unfold bestC bestOf
  rw [List.take_length, List.take_length, List.foldl_map]
  cases F with
  | nil => exact absurd rfl hF
  | cons a l => rfl
theorem bestC_one (h : House) (i : Nat) (c : List (Nat × Nat)) : bestC h i [c] 1 = c := bet_self h i c
/-- a turn: the choices that are weighed, the best of what follows them -/
theorem go_cons {h : House} {L : List Nat} {i : Nat} {r F : List Nat} (hF : F ≠ []) :
    go h L (i :: r) F = bestC h i ((if i ∈ L then F else [top1 h i F F.length]).map (cand (go h L r) i F)) ((if i ∈ L then F else [top1 h i F F.length]).map (cand (go h L r) i F)).length := by
  by_cases c : i ∈ L
  · rw [if_pos c, go_in c, bestC_cand hF]
  · rw [if_neg c, go_out c]
    show _ = bestC h i [cand (go h L r) i F (top1 h i F F.length)] 1
    rw [bestC_one]
    rfl
/-- the parties beside the offices that are taken: the takings themselves -/
theorem zip_snd {P : List Nat} : ∀ {l : List (Nat × Nat)}, l.map Prod.fst = P → P.zip (l.map Prod.snd) = l := by
  intro l e
  subst e
  induction l with
  | nil => rfl
  | cons x l ih =>
    rw [List.map_cons, List.map_cons, List.zip_cons_cons, ih]
/-! ### every part -/
def subs : Nat → List (List Nat)
  | 0 => [[]]
  | k + 1 => subs k ++ (subs k).map (· ++ [k])
theorem subs_pos : ∀ k, 0 < (subs k).length
  | 0 => Nat.one_pos
  | k + 1 => by
    show 0 < (subs k ++ (subs k).map (· ++ [k])).length
    rw [List.length_append]
    exact Nat.add_pos_left (subs_pos k) _
theorem subs_length : ∀ k, (subs k).length = 2 ^ k
  | 0 => rfl
  | k + 1 => by
    show (subs k ++ (subs k).map (· ++ [k])).length = _
    rw [List.length_append, List.length_map, subs_length k, Nat.pow_succ]
    omega
theorem subs_first : ∀ k, (subs k)[0]? = some []
  | 0 => rfl
  | k + 1 => by
    show (subs k ++ (subs k).map (· ++ [k]))[0]? = _
    rw [List.getElem?_append_left (subs_pos k)]
    exact subs_first k
theorem subs_split {k j : Nat} {F : List Nat} (e : (subs (k + 1))[j]? = some F) : (j < (subs k).length ∧ (subs k)[j]? = some F) ∨ ((subs k).length ≤ j ∧ ∃ G, (subs k)[j - (subs k).length]? = some G ∧ F = G ++ [k]) := by
  have e' : (subs k ++ (subs k).map (· ++ [k]))[j]? = some F := e
  rcases Nat.lt_or_ge j (subs k).length with c | c
  · rw [List.getElem?_append_left c] at e'
    exact .inl ⟨c, e'⟩
  · rw [List.getElem?_append_right c, List.getElem?_map] at e'
    cases q : (subs k)[j - (subs k).length]? with
    | none =>
      rw [q] at e'
      cases e'
    | some G =>
      rw [q] at e'
      exact .inr ⟨c, G, rfl, (Option.some.inj e').symm⟩
theorem subs_lt : ∀ {k j : Nat} {F : List Nat}, (subs k)[j]? = some F → ∀ x ∈ F, x < k
  | 0, j, F, e, x, hx => by
    cases j with
    | zero =>
      have q : [] = F := Option.some.inj e
      rw [← q] at hx
      cases hx
    | succ j => cases e
  | k + 1, j, F, e, x, hx => by
    rcases subs_split e with ⟨_, e'⟩ | ⟨_, G, e', rfl⟩
    · exact Nat.lt_succ_of_lt (subs_lt e' x hx)
    · rcases List.mem_append.mp hx with q | q
      · exact Nat.lt_succ_of_lt (subs_lt e' x q)
      · rw [List.mem_singleton.mp q]
        exact Nat.lt_succ_self k
theorem subs_len : ∀ {k j : Nat} {F : List Nat}, (subs k)[j]? = some F → F.length ≤ k
  | 0, j, F, e => by
    cases j with
    | zero =>
      have q : [] = F := Option.some.inj e
      rw [← q]
      exact Nat.le_refl _
    | succ j => cases e
  | k + 1, j, F, e => by
    rcases subs_split e with ⟨_, e'⟩ | ⟨_, G, e', rfl⟩
    · exact Nat.le_succ_of_le (subs_len e')
    · rw [List.length_append]
      exact Nat.succ_le_succ (subs_len e')
theorem subs_nodup : ∀ {k j : Nat} {F : List Nat}, (subs k)[j]? = some F → F.Nodup
  | 0, j, F, e => by
    cases j with
    | zero =>
      have q : [] = F := Option.some.inj e
      rw [← q]
      exact List.nodup_nil
    | succ j => cases e
  | k + 1, j, F, e => by
    rcases subs_split e with ⟨_, e'⟩ | ⟨_, G, e', rfl⟩
    · exact subs_nodup e'
    · refine List.nodup_append.mpr ⟨subs_nodup e', List.nodup_cons.mpr ⟨List.not_mem_nil, List.nodup_nil⟩, fun a ha b hb => ?_⟩
      rw [List.mem_singleton.mp hb]
      exact Nat.ne_of_lt (subs_lt e' a ha)
theorem subs_nil : ∀ {k j : Nat}, (subs k)[j]? = some [] → j = 0
  | 0, j, e => by
    cases j with
    | zero => rfl
    | succ j => cases e
  | k + 1, j, e => by
    rcases subs_split e with ⟨_, e'⟩ | ⟨_, G, e', q⟩
    · exact subs_nil e'
    · have z := congrArg List.length q
      rw [List.length_append] at z
      exact absurd z (by show ¬ 0 = G.length + 1; omega)
/-- without one of its offices a part stands further ahead -/
theorem subs_less : ∀ {k j : Nat} {F : List Nat} {o : Nat}, (subs k)[j]? = some F → o ∈ F → ∃ m, m < j ∧ (subs k)[m]? = some (F.filter fun x => x != o)
  | 0, j, F, o, e, ho => by
    cases j with
    | zero =>
      have q : [] = F := Option.some.inj e
      rw [← q] at ho
      cases ho
    | succ j => cases e
  | k + 1, j, F, o, e, ho => by
    rcases subs_split e with ⟨c, e'⟩ | ⟨c, G, e', rfl⟩
    · obtain ⟨m, hm, em⟩ := subs_less e' ho
      refine ⟨m, hm, ?_⟩
      show (subs k ++ (subs k).map (· ++ [k]))[m]? = _
      rw [List.getElem?_append_left (Nat.lt_trans hm c)]
      exact em
    · rw [List.filter_append]
      by_cases q : o = k
      · subst q
        have h1 : (G.filter fun x => x != o) = G := filter_ne_self fun z => Nat.lt_irrefl _ (subs_lt e' o z)
        have h2 : ([o].filter fun x => x != o) = [] := by simp
        rw [h1, h2, List.append_nil]
        have lp := subs_pos o
        refine ⟨j - (subs o).length, by omega, ?_⟩
        show (subs o ++ (subs o).map (· ++ [o]))[j - (subs o).length]? = _
        rw [List.getElem?_append_left (List.getElem?_eq_some_iff.mp e').1]
        exact e'
      · have hG : o ∈ G := by
          rcases List.mem_append.mp ho with z | z
          · exact z
          · exact absurd (List.mem_singleton.mp z) q
        have h2 : ([k].filter fun x => x != o) = [k] := by
          have h3 : (k != o) = true := by simpa using fun z => q z.symm
          rw [List.filter_cons, if_pos h3]
          rfl
        rw [h2]
        obtain ⟨m, hm, em⟩ := subs_less e' hG
        refine ⟨(subs k).length + m, by omega, ?_⟩
        show (subs k ++ (subs k).map (· ++ [k]))[(subs k).length + m]? = _
        rw [List.getElem?_append_right (Nat.le_add_right _ _), Nat.add_sub_cancel_left, List.getElem?_map, em]
        rfl
theorem subs_last : ∀ k, (subs k)[(subs k).length - 1]? = some (List.range k)
  | 0 => rfl
  | k + 1 => by
    have lp := subs_pos k
    have e : (subs (k + 1)).length = (subs k).length + (subs k).length := by
      show (subs k ++ (subs k).map (· ++ [k])).length = _
      rw [List.length_append, List.length_map]
    rw [e]
    show (subs k ++ (subs k).map (· ++ [k]))[(subs k).length + (subs k).length - 1]? = _
    rw [List.getElem?_append_right (by omega), List.getElem?_map]
    have e2 : (subs k).length + (subs k).length - 1 - (subs k).length = (subs k).length - 1 := by omega
    rw [e2, subs_last k, List.range_succ]
    rfl
end Tm
/-! ### who has which office; the pairs that two would rather swap -/
namespace Tm
open Ks466
/-- each office's party, behind some takings -/
def holdFrom (b : List Nat) (l : List (Nat × Nat)) : List Nat := l.foldl (fun hs x => hs.set x.2 x.1) b
def hold (N : Nat) (l : List (Nat × Nat)) : List Nat := holdFrom (List.replicate N 0) l
theorem holdFrom_cons (b : List Nat) (x : Nat × Nat) (l : List (Nat × Nat)) : holdFrom b (x :: l) = holdFrom (b.set x.2 x.1) l := rfl
theorem hold_snoc (N : Nat) (l : List (Nat × Nat)) (i o : Nat) : hold N (l ++ [(i, o)]) = (hold N l).set o i := by
  unfold hold holdFrom
  rw [List.foldl_append]
  rfl
theorem holdFrom_length : ∀ (l : List (Nat × Nat)) (b : List Nat), (holdFrom b l).length = b.length
  | [], _ => rfl
  | x :: l, b => by rw [holdFrom_cons, holdFrom_length l, List.length_set]
theorem hold_length (N : Nat) (l : List (Nat × Nat)) : (hold N l).length = N := by
  unfold hold
  rw [holdFrom_length, List.length_replicate]
theorem holdFrom_out : ∀ (l : List (Nat × Nat)) (b : List Nat) (o : Nat), o ∉ l.map Prod.snd → (holdFrom b l)[o]? = b[o]?
  | [], _, _, _ => rfl
  | x :: l, b, o, h => by
    rw [List.map_cons] at h
    rw [holdFrom_cons, holdFrom_out l _ o fun z => h (List.mem_cons_of_mem _ z), List.getElem?_set, if_neg fun e => h (by rw [e]; exact List.mem_cons_self)]
theorem holdFrom_in : ∀ (l : List (Nat × Nat)) (b : List Nat) (i o : Nat), (l.map Prod.snd).Nodup → o < b.length → (i, o) ∈ l → (holdFrom b l)[o]? = some i
  | [], _, _, _, _, _, h => by cases h
  | x :: l, b, i, o, hn, hb, h => by
    rw [List.map_cons] at hn
    obtain ⟨h1, h2⟩ := List.nodup_cons.mp hn
    rw [holdFrom_cons]
    rcases List.mem_cons.mp h with e | e
    · subst e
      rw [holdFrom_out l _ o h1, List.getElem?_set, if_pos rfl, if_pos hb]
    · exact holdFrom_in l _ i o h2 (by rw [List.length_set]; exact hb) e
/-- the party that has an office -/
def own (N : Nat) (l : List (Nat × Nat)) (o : Nat) : Nat := (hold N l).getD o 0
theorem own_get {N : Nat} {l : List (Nat × Nat)} {o : Nat} (h : o < N) : (hold N l)[o]? = some (own N l o) := by
  unfold own
  have q : o < (hold N l).length := by rw [hold_length]; exact h
  rw [List.getD_eq_getElem?_getD, List.getElem?_eq_getElem q]
  rfl
theorem own_mem {P : List Nat} {N : Nat} {l : List (Nat × Nat)} (t : Tk P (List.range N) l) (hp : P.length = N) {o : Nat} (h : o < N) : (own N l o, o) ∈ l := by
  have m := t.all List.nodup_range (by rw [hp, List.length_range]) o (List.mem_range.mpr h)
  obtain ⟨x, hx, e⟩ := List.mem_map.mp m
  have e2 : (x.1, o) ∈ l := by
    rw [← e]
    exact hx
  have q := holdFrom_in l (List.replicate N 0) x.1 o t.nodup (by rw [List.length_replicate]; exact h) e2
  have q2 : (hold N l)[o]? = some x.1 := q
  rw [own_get h] at q2
  rw [Option.some.inj q2]
  exact e2
theorem own_lt {P : List Nat} {N M : Nat} {l : List (Nat × Nat)} (t : Tk P (List.range N) l) (hp : P.length = N) (hP : ∀ x ∈ P, x < M) {o : Nat} (h : o < N) : own N l o < M := by
  refine hP _ ?_
  rw [← t.fst]
  exact List.mem_map.mpr ⟨_, own_mem t hp h, rfl⟩
/-- both would rather have the other's -/
def rather (h : House) (g : Nat → Nat) (o p : Nat) : Bool := decide (worth h (g o) o < worth h (g o) p) && decide (worth h (g p) p < worth h (g p) o)
def rowTo (h : House) (g : Nat → Nat) (o k : Nat) : List (Nat × Nat) := ((List.range k).filter fun p => decide (o < p) && rather h g o p).map fun p => (o, p)
def pairsTo (h : House) (g : Nat → Nat) (N k : Nat) : List (Nat × Nat) := (List.range k).flatMap fun o => rowTo h g o N
theorem pairsTo_zero (h : House) (g : Nat → Nat) (N : Nat) : pairsTo h g N 0 = [] := rfl
theorem pairsTo_succ (h : House) (g : Nat → Nat) (N k : Nat) : pairsTo h g N (k + 1) = pairsTo h g N k ++ rowTo h g k N := by
  unfold pairsTo
  rw [List.range_succ, List.flatMap_append]
  simp
theorem rowTo_first (h : House) (g : Nat → Nat) (o : Nat) : rowTo h g o (o + 1) = [] := by
  unfold rowTo
  have e : ((List.range (o + 1)).filter fun p => decide (o < p) && rather h g o p) = [] := by
    rw [List.filter_eq_nil_iff]
    intro p hp
    have q := List.mem_range.mp hp
    rw [decide_eq_false (show ¬ o < p by omega)]
    simp
  rw [e]
  rfl
theorem rowTo_yes {h : House} {g : Nat → Nat} {o k : Nat} (c : o < k) (r : rather h g o k = true) : rowTo h g o (k + 1) = rowTo h g o k ++ [(o, k)] := by
  unfold rowTo
  have e : ([k].filter fun p => decide (o < p) && rather h g o p) = [k] := by
    rw [List.filter_cons, if_pos (by rw [decide_eq_true c, r]; rfl)]
    rfl
  rw [List.range_succ, List.filter_append, List.map_append, e]
  rfl
theorem rowTo_no {h : House} {g : Nat → Nat} {o k : Nat} (r : rather h g o k = false) : rowTo h g o (k + 1) = rowTo h g o k := by
  unfold rowTo
  have e : ([k].filter fun p => decide (o < p) && rather h g o p) = [] := by
    rw [List.filter_cons, if_neg (by rw [r, Bool.and_false]; exact Bool.false_ne_true)]
    rfl
  rw [List.range_succ, List.filter_append, List.map_append, e]
  exact List.append_nil _
theorem rowTo_length (h : House) (g : Nat → Nat) (o k : Nat) : (rowTo h g o k).length ≤ k := by
  unfold rowTo
  rw [List.length_map]
  exact Nat.le_trans (List.length_filter_le _ _) (by rw [List.length_range]; exact Nat.le_refl _)
theorem pairsTo_length (h : House) (g : Nat → Nat) (N : Nat) : ∀ k, (pairsTo h g N k).length ≤ k * N
  | 0 => by rw [pairsTo_zero]; exact Nat.zero_le _
  | k + 1 => by
    rw [pairsTo_succ, List.length_append, Nat.succ_mul]
    exact Nat.add_le_add (pairsTo_length h g N k) (rowTo_length h g k N)
/-- a pair is had by two: of one party's own offices not each is worth more than the other -/
theorem rather_two {h : House} {g : Nat → Nat} {o p : Nat} (r : rather h g o p = true) : g o ≠ g p := fun e => by
  unfold rather at r
  rw [Bool.and_eq_true, decide_eq_true_eq, decide_eq_true_eq, e] at r
  omega
theorem any_rather {P : List Nat} {N : Nat} {l : List (Nat × Nat)} (h : House) (t : Tk P (List.range N) l) (hp : P.length = N) {o p : Nat} (ho : o < N) (hq : p < N) :
    (l.any fun x => x.2 == o && l.any fun y => y.2 == p && x.1 != y.1 && decide (worth h x.1 o < worth h x.1 p) && decide (worth h y.1 p < worth h y.1 o)) = rather h (own N l) o p := by
  have e : (fun x : Nat × Nat => x.2 == o && l.any fun y => y.2 == p && x.1 != y.1 && decide (worth h x.1 o < worth h x.1 p) && decide (worth h y.1 p < worth h y.1 o))
      = fun x : Nat × Nat => x.2 == o && (x.1 != own N l p && decide (worth h x.1 o < worth h x.1 p) && decide (worth h (own N l p) p < worth h (own N l p) o)) := by
    funext x
    congr 1
    have e1 : (fun y : Nat × Nat => y.2 == p && x.1 != y.1 && decide (worth h x.1 o < worth h x.1 p) && decide (worth h y.1 p < worth h y.1 o))
        = fun y : Nat × Nat => y.2 == p && (x.1 != y.1 && decide (worth h x.1 o < worth h x.1 p) && decide (worth h y.1 p < worth h y.1 o)) := by
      funext y
      rw [Bool.and_assoc, Bool.and_assoc, Bool.and_assoc]
    rw [e1]
    exact any_owner (fun y => x.1 != y.1 && decide (worth h x.1 o < worth h x.1 p) && decide (worth h y.1 p < worth h y.1 o)) t.nodup (own_mem t hp hq)
  rw [e, any_owner (fun x => x.1 != own N l p && decide (worth h x.1 o < worth h x.1 p) && decide (worth h (own N l p) p < worth h (own N l p) o)) t.nodup (own_mem t hp ho)]
  show ((own N l o != own N l p && decide (worth h (own N l o) o < worth h (own N l o) p)) && decide (worth h (own N l p) p < worth h (own N l p) o)) = _
  rw [Bool.and_assoc]
  show (own N l o != own N l p && rather h (own N l) o p) = _
  cases r : rather h (own N l) o p with
  | false => rw [Bool.and_false]
  | true =>
    have z : (own N l o != own N l p) = true := by simpa using rather_two r
    rw [z]
    rfl
theorem swaps_own {P : List Nat} {h : House} {l : List (Nat × Nat)} (t : Tk P (List.range h.offices) l) (hp : P.length = h.offices) : swaps h l = pairsTo h (own h.offices l) h.offices h.offices := by
  unfold swaps pairsTo rowTo
  show (List.range h.offices).flatMap _ = _
  rw [List.flatMap_def, List.flatMap_def]
  congr 1
  refine List.map_congr_left fun o ho => ?_
  congr 1
  refine List.filter_congr fun p hq => ?_
  congr 1
  exact any_rather h t hp (List.mem_range.mp ho) (List.mem_range.mp hq)
/-- plainly or ahead, as the number tells -/
def byAll (h : House) (k : Nat) (P F : List Nat) : List (Nat × Nat) := if k = 1 then Ks466.ahead h P F else Ks466.plain h P F
theorem tk_all (h : House) (k : Nat) {P F : List Nat} (hn : F.Nodup) (hl : P.length ≤ F.length) : Tk P F (byAll h k P F) := by
  unfold byAll
  split
  · exact tk_ahead h hn hl
  · exact tk_plain h hn hl
theorem way_all {h : House} {k N : Nat} (c : k ≤ 1) (e : h.offices = N) : way h k = byAll h k (order h) (List.range N) := by
  subst e
  unfold way byAll
  by_cases z : k = 0
  · rw [if_pos z, if_neg (by omega)]
    rfl
  · rw [if_neg z, if_pos (by omega)]
    rfl
theorem all_plain (h : House) (P F : List Nat) : byAll h 0 P F = Ks466.plain h P F := if_neg (by decide)
theorem all_ahead (h : House) (P F : List Nat) : byAll h 1 P F = Ks466.ahead h P F := if_pos rfl
def two (x : Nat × Nat) : List Nat := [x.1, x.2]
theorem two_length : ∀ l : List (Nat × Nat), (l.flatMap two).length = 2 * l.length
  | [] => rfl
  | x :: l => by
    rw [List.flatMap_cons, List.length_append, two_length l]
    show 2 + 2 * l.length = 2 * (l.length + 1)
    omega
end Tm
/-! ### The text by places, and what the program's top has left -/
namespace Tw
open PySem PySem.Spec PyProof.Rows L2 Tm
open PySem.W (Codec)
def top (i : Nat) : Stmt := PySem.Challenge.pw_turns_s06_swaps.main.body.getD i (.Pass ⟨0, 0, 0, 0⟩)
theorem same_new {H : Hp} {p : Addr} (h : H p = none) (o : HO) : Same H (upd H p o) := fun b u q => by rw [upd_ne (ne_of_none q h)]; exact q
/-- an object that H does not know may change -/
theorem same_mut {H H' : Hp} {p : Addr} {o : HO} (e : Same H H') (h : H p = none) : Same H (upd H' p o) := fun a u ha => by
  rw [upd_ne (ne_of_none ha h)]
  exact e a u ha
theorem small {n : Nat} (h : n ≤ 1000) : n ≤ sizeLine := Nat.le_of_lt (small1000 h)
theorem smallL {n : Nat} (h : n ≤ 1000) : n < sizeLine := small1000 h
/-- a def of the top: where it stands, how its parameters are bound -/
structure Def (K : PySem.W.Frag) (mg : Str → Option Value) (name : Str) (st : Stmt) (ps : List Str) : Prop where
  ex : ∃ (f : Addr) (fd : FuncData), Fun K name name st f fd ∧ mg name = some (.ref f) ∧ Binds K fd ps []
/-- a def that keeps its promise -/
structure Has (P : Program) (w : World) (K : PySem.W.Frag) (mg : Str → Option Value) (base : Heap) (k : Nat) (name : Str) (ps : List Str) (sp : Sp) : Prop where
  ex : ∃ (f : Addr) (fd : FuncData), FnOk P w K mg base CX0 k f fd ps sp ∧ mg name = some (.ref f) ∧ PySem.W.keepIn K (.ref f) = true ∧ Binds K fd ps []
/-- ints by place -/
theorem get_int {ns : List Int} {i : Nat} {y : V} (hi : (ns.map V.int)[i]? = some y) : ∃ z, ns[i]? = some z ∧ y = V.int z := by
  rw [List.getElem?_map] at hi
  cases e : ns[i]? with
  | none =>
    rw [e] at hi
    cases hi
  | some z =>
    rw [e] at hi
    exact ⟨z, rfl, (Option.some.inj hi).symm⟩
theorem get_zi {l : List Nat} {i : Nat} {y : V} (hi : ((zi l).map V.int)[i]? = some y) : ∃ z : Nat, l[i]? = some z ∧ y = V.int (z : Int) := by
  obtain ⟨z, hz, rfl⟩ := get_int hi
  unfold zi at hz
  rw [List.getElem?_map] at hz
  cases e : l[i]? with
  | none =>
    rw [e] at hz
    cases hz
  | some k =>
    rw [e] at hz
    have q : (k : Int) = z := Option.some.inj hz
    exact ⟨k, rfl, by rw [q]⟩
theorem at_zi {l : List Nat} {i k : Nat} (h : l[i]? = some k) : atI ((zi l).map V.int) (i : Int) = some (V.int (k : Int)) := atI_nat (by rw [List.getElem?_map, zi_get h]; rfl)
theorem len_zi (l : List Nat) : ((zi l).map V.int).length = l.length := by rw [List.length_map, zi_length]
theorem len_int (l : List Int) : (l.map V.int).length = l.length := List.length_map _
theorem app_zi (l : List Nat) (k : Nat) : (zi l).map V.int ++ [V.int (k : Int)] = (zi (l ++ [k])).map V.int := by
  rw [zi_append, List.map_append]
  rfl
theorem set_zi (l : List Nat) (i k : Nat) : ((zi l).map V.int).set i (V.int (k : Int)) = (zi (l.set i k)).map V.int := by
  unfold zi
  rw [List.map_set, List.map_set]
end Tw
/-! ### within -/
namespace Tw
open PySem PySem.Spec PyProof.Rows L2 Tm
abbrev sWithin : Stmt := top 9
def spWithin (K : PySem.W.Frag) : Sp := fun vs H Q _ => ∃ (a : Addr) (ns : List Int) (lo hi : Int), vs = [.ref a, .int lo, .int hi] ∧ SqL K H a (ns.map V.int) ∧ Q (.bl (inside lo hi ns)) H
theorem scWithin : FnScope ["numbers", "least", "most", "number"] ["numbers", "least", "most"] (defScope sWithin) := ⟨rfl, rfl, rfl, by decide +kernel, rfl, by decide +kernel, by decide +kernel⟩
theorem inside_bad {lo hi z : Int} {ns : List Int} {i : Nat} (h : ns[i]? = some z) (b : z < lo ∨ hi < z) : inside lo hi ns = false := by
  have m := List.mem_of_getElem? h
  cases e : inside lo hi ns with
  | false => rfl
  | true =>
    have q := List.all_eq_true.mp e z m
    simp only [Bool.not_eq_true', Bool.or_eq_false_iff, decide_eq_false_iff_not] at q
    omega
theorem inside_more {lo hi z : Int} {ns : List Int} {i : Nat} (h : ns[i]? = some z) (b1 : ¬ z < lo) (b2 : ¬ hi < z) (e : inside lo hi (ns.take i) = true) : inside lo hi (ns.take (i + 1)) = true := by
  have q : ns.take (i + 1) = ns.take i ++ [z] := by
    rw [List.take_add_one, h]
    rfl
  rw [q]
  unfold inside at e ⊢
  rw [List.all_append, e, Bool.true_and]
  show (!(decide (z < lo) || decide (z > hi)) && true) = true
  rw [decide_eq_false b1, decide_eq_false b2]
  rfl
section
variable {P : Program} {w : World} {K : PySem.W.Frag} {mg : Str → Option Value} {base : Heap}
theorem ok_within {f : Addr} {fd : FuncData} (F : Fun K "within" "within" sWithin f fd) : FnOk P w K mg base CX0 1 f fd ["numbers", "least", "most"] (spWithin K) := by
  refine F.ok scWithin (fun vs H Q E h => ?_) (fun cdv A outer s H vs Q E hr h => ?_)
  · obtain ⟨a, ns, lo, hi, rfl, _⟩ := h
    rfl
  obtain ⟨a, ns, lo, hi, rfl, hS, q⟩ := h
  refine ⟨_, pss_cons (ps_for PassesOwn.never rfl (pi_list (pv 0)) (pg_name (i := 3) scWithin.nd rfl (Or.inl rfl))
      (pss_one (ps_if (PW.pt (pw_or (pt_cmpR op_lt (pv 3) (pv 1) (nomark _)) (pw_or1 (pt_cmpR op_gt (pv 3) (pv 2) (nomark _))))) (pss_one (ps_ret pe_bl)) pss_nil)))
    (pss_one (ps_ret pe_bl)), ?_⟩
  refine ⟨_, rfl, a, rfl, ⟨_, hS⟩, for_list (K := K) (a := a) (xs := ns.map V.int) (fun i σ H' => ∃ v : Option V, σ = [some (.ref a), some (.int lo), some (.int hi), v] ∧ H' = H ∧ inside lo hi (ns.take i) = true)
    ⟨none, rfl, rfl, rfl⟩ (fun i σ H' _ ⟨_, _, e, _⟩ => by rw [e]; exact hS) ?_ ?_⟩
  · rintro i y σ H' hi' ⟨v, rfl, rfl, hin⟩
    obtain ⟨z, hz, rfl⟩ := get_int hi'
    refine ⟨_, rfl, _, rfl, _, _, rfl, rfl, _, rfl, ?_⟩
    refine ite2 (fun c => ?_) (fun c => ?_)
    · refine iteT ?_
      have b := inside_bad (lo := lo) (hi := hi) hz (Or.inl (of_decide_eq_true c))
      rw [b] at q
      exact q
    · refine ⟨_, rfl, _, rfl, _, _, rfl, rfl, _, rfl, ?_⟩
      refine ite2 (fun c2 => ?_) (fun c2 => ?_)
      · have b := inside_bad (lo := lo) (hi := hi) hz (Or.inr (of_decide_eq_true c2))
        rw [b] at q
        exact q
      · exact ⟨some (.int z), rfl, rfl, inside_more hz (of_decide_eq_false (Bool.eq_false_iff.mpr c)) (of_decide_eq_false (Bool.eq_false_iff.mpr c2)) hin⟩
  · rintro σ H' ⟨v, rfl, rfl, hin⟩
    rw [len_int, List.take_length] at hin
    rw [hin] at q
    exact q
theorem has_within (D : Def K mg "within" sWithin ["numbers", "least", "most"]) : Has P w K mg base 1 "within" ["numbers", "least", "most"] (spWithin K) := by
  obtain ⟨f, fd, F, m, b⟩ := D
  exact ⟨f, fd, ok_within F, m, F.kp, b⟩
end
end Tw
/-! ### as_told -/
namespace Tw
open PySem PySem.Spec PyProof.Rows L2 Tm
abbrev sTold : Stmt := top 8
def spTold (K : PySem.W.Frag) : Sp := fun vs H Q _ => ∃ (a b : Addr) (n : Int) (s w : List Int), vs = [.int n, .ref a, .ref b] ∧ 0 ≤ n ∧ SqL K H a (s.map V.int) ∧ SqL K H b (w.map V.int) ∧ Q (.bl (told n s w)) H
theorem scTold : FnScope ["n", "seats", "worth"] ["n", "seats", "worth"] (defScope sTold) := ⟨rfl, rfl, rfl, by decide +kernel, rfl, by decide +kernel, by decide +kernel⟩
/-- the numbers of the top that as_told asks -/
structure Bounds (mg : Str → Option Value) : Prop where
  mo : ∃ u, mg "MOST_OFFICES" = some u ∧ RelV (.int 5) u
  mp : ∃ u, mg "MOST_PARTIES" = some u ∧ RelV (.int 4) u
  ms : ∃ u, mg "MOST_SEATS" = some u ∧ RelV (.int 200) u
  mw : ∃ u, mg "MOST_WORTH" = some u ∧ RelV (.int 50) u
theorem told_a {n : Int} {s w : List Int} (h : 5 < n) : told n s w = false := by
  unfold told
  rw [decide_eq_true (show n > 5 from h)]
  rfl
theorem told_b {n : Int} {s w : List Int} (h : (s.length : Int) < 1 ∨ 4 < (s.length : Int)) : told n s w = false := by
  unfold told
  have e : (decide ((s.length : Int) < 1) || decide ((s.length : Int) > 4)) = true := by
    rcases h with h | h
    · rw [decide_eq_true h]
      rfl
    · rw [decide_eq_true (show (s.length : Int) > 4 from h), Bool.or_true]
  rw [e, Bool.not_true, Bool.and_false, Bool.false_and, Bool.false_and]
theorem told_c {n : Int} {s w : List Int} (h : ¬ (w.length : Int) = n * (s.length : Int)) : told n s w = false := by
  unfold told
  rw [decide_eq_true (show (w.length : Int) ≠ n * (s.length : Int) from h), Bool.not_true, Bool.and_false, Bool.false_and]
theorem told_d {n : Int} {s w : List Int} (h1 : ¬ 5 < n) (h2 : ¬ (s.length : Int) < 1) (h3 : ¬ 4 < (s.length : Int)) (h4 : (w.length : Int) = n * (s.length : Int)) : told n s w = (inside 1 200 s && inside 0 50 w) := by
  unfold told
  have e4 : decide ((w.length : Int) ≠ n * (s.length : Int)) = false := decide_eq_false fun q => q h4
  rw [decide_eq_false (show ¬ n > 5 from h1), decide_eq_false h2, decide_eq_false (show ¬ (s.length : Int) > 4 from h3), e4]
  rfl
section
variable {P : Program} {w : World} {K : PySem.W.Frag} {mg : Str → Option Value} {base : Heap}
theorem ok_told {f : Addr} {fd : FuncData} (F : Fun K "as_told" "as_told" sTold f fd) (B : Bounds mg) (len : mg "len" = none) (W : Has P w K mg base 1 "within" ["numbers", "least", "most"] (spWithin K)) : FnOk P w K mg base CX0 2 f fd ["n", "seats", "worth"] (spTold K) := by
  obtain ⟨fW, dW, G, mW, kW, bW⟩ := W
  obtain ⟨uo, go, ro⟩ := B.mo
  obtain ⟨up, gp, rp⟩ := B.mp
  obtain ⟨us, gs, rs⟩ := B.ms
  obtain ⟨uw, gw, rw'⟩ := B.mw
  refine F.ok scTold (fun vs H Q E h => ?_) (fun cdv A outer s H vs Q E hr h => ?_)
  · obtain ⟨a, b, n, s, w, rfl, _⟩ := h
    rfl
  obtain ⟨a, b, n, s, w, rfl, h0, hS, hW, q⟩ := h
  refine ⟨_, pss_cons (ps_if (pt_cmpR op_gt (pv 0) (pe_glob rfl go ro) (nomark _)) (pss_one (ps_ret pe_bl)) pss_nil)
    (pss_cons (ps_if (PW.pt (pw_or (pt_cmpR op_lt (pe_callB call_len_seq rfl len PySem.boot_len (pa_cons (pv 1) pa_nil)) pe_int (nomark _)) (pw_or1 (pt_cmpR op_gt (pe_callB call_len_seq rfl len PySem.boot_len (pa_cons (pv 1) pa_nil)) (pe_glob rfl gp rp) (nomark _))))) (pss_one (ps_ret pe_bl)) pss_nil)
    (pss_cons (ps_if (pt_cmpR op_ne (pe_callB call_len_seq rfl len PySem.boot_len (pa_cons (pv 2) pa_nil)) (pe_op op_mul (pv 0) (pe_callB call_len_seq rfl len PySem.boot_len (pa_cons (pv 1) pa_nil))) (nomark _)) (pss_one (ps_ret pe_bl)) pss_nil)
    (pss_one (ps_ret (pe_and (pe_call G hr rfl mW kW bW .nil pass0 (pa_cons (pv 1) (pa_cons pe_int (pa_cons (pe_glob rfl gs rs) pa_nil)))) (pe_one (pe_call G hr rfl mW kW bW .nil pass0 (pa_cons (pv 2) (pa_cons pe_int (pa_cons (pe_glob rfl gw rw') pa_nil)))))))))), ?_⟩
  refine ⟨_, rfl, _, _, rfl, rfl, _, rfl, ?_⟩
  refine ite2 (fun c => ?_) (fun c => ?_)
  · rw [told_a (of_decide_eq_true c)] at q
    exact q
  have c1 : ¬ 5 < n := of_decide_eq_false (Bool.eq_false_iff.mpr c)
  have ls : (((s.map V.int).length : Nat) : Int) = (s.length : Int) := by rw [len_int]
  have lw : (((w.map V.int).length : Nat) : Int) = (w.length : Int) := by rw [len_int]
  refine ⟨_, rfl, a, _, rfl, .inl hS, _, _, rfl, rfl, _, rfl, ?_⟩
  refine ite2 (fun c => iteT ?_) (fun c => ?_)
  · have c' := of_decide_eq_true c
    rw [ls] at c'
    rw [told_b (Or.inl c')] at q
    exact q
  have c2 : ¬ (s.length : Int) < 1 := by
    have c' := of_decide_eq_false (Bool.eq_false_iff.mpr c)
    rw [ls] at c'
    exact c'
  refine ⟨_, rfl, a, _, rfl, .inl hS, _, _, rfl, rfl, _, rfl, ?_⟩
  refine ite2 (fun c => ?_) (fun c => ?_)
  · have c' := of_decide_eq_true c
    rw [ls] at c'
    rw [told_b (Or.inr c')] at q
    exact q
  have c3 : ¬ 4 < (s.length : Int) := by
    have c' := of_decide_eq_false (Bool.eq_false_iff.mpr c)
    rw [ls] at c'
    exact c'
  refine ⟨_, rfl, b, _, rfl, .inl hW, _, rfl, _, rfl, a, _, rfl, .inl hS, _, _, rfl, rfl, .inl ⟨by omega, by omega⟩, rfl, _, rfl, ?_⟩
  refine ite2 (fun c => ?_) (fun c => ?_)
  · have c' : ¬ V.int (((w.map V.int).length : Nat) : Int) = V.int (n * (((s.map V.int).length : Nat) : Int)) := by
      intro e
      rw [decide_eq_true e] at c
      exact Bool.noConfusion c
    rw [ls, lw] at c'
    rw [told_c fun e => c' (by rw [e])] at q
    exact q
  have c4 : (w.length : Int) = n * (s.length : Int) := by
    have c' : V.int (((w.map V.int).length : Nat) : Int) = V.int (n * (((s.map V.int).length : Nat) : Int)) := by
      rcases Decidable.em (V.int (((w.map V.int).length : Nat) : Int) = V.int (n * (((s.map V.int).length : Nat) : Int))) with e | e
      · exact e
      · rw [decide_eq_false e] at c
        exact absurd rfl c
    rw [ls, lw] at c'
    exact V.int.inj c'
  rw [told_d c1 c2 c3 c4] at q
  refine ⟨_, rfl, a, s, _, _, rfl, hS, _, rfl, ?_⟩
  refine ite2 (fun c => ?_) (fun c => ?_)
  · rw [c, Bool.true_and] at q
    exact ⟨_, rfl, b, w, _, _, rfl, hW, q⟩
  · rw [Bool.eq_false_iff.mpr c, Bool.false_and] at q
    exact q
theorem has_told (D : Def K mg "as_told" sTold ["n", "seats", "worth"]) (B : Bounds mg) (len : mg "len" = none) (W : Has P w K mg base 1 "within" ["numbers", "least", "most"] (spWithin K)) : Has P w K mg base 2 "as_told" ["n", "seats", "worth"] (spTold K) := by
  obtain ⟨f, fd, F, m, b⟩ := D
  exact ⟨f, fd, ok_told F B len W, m, F.kp, b⟩
end
end Tw
/-! ### party_on_turn -/
namespace Tw
open PySem PySem.Spec PyProof.Rows L2 Tm
abbrev sParty : Stmt := top 11
/-- a house as the loops need it -/
structure Fit (h : Ks466.House) : Prop where
  p1 : 1 ≤ h.seats.length
  p4 : h.seats.length ≤ 4
  sb : ∀ x ∈ h.seats, x ≤ 200
  n5 : h.offices ≤ 5
def spParty (K : PySem.W.Frag) : Sp := fun vs H Q _ => ∃ (a c : Addr) (h : Ks466.House) (l : List Nat), vs = [.ref a, .ref c] ∧ Fit h ∧ SqL K H a ((zi h.seats).map V.int) ∧ SqL K H c ((zi (hads h.seats.length l)).map V.int) ∧ Q (.int ((Ks466.turn h l : Nat) : Int)) H
theorem scParty : FnScope ["seats", "had", "best", "party"] ["seats", "had"] (defScope sParty) := ⟨rfl, rfl, rfl, by decide +kernel, rfl, by decide +kernel, by decide +kernel⟩
theorem small200 {k : Nat} (h : k ≤ 200) : (-(2 ^ 64) : Int) < ((k : Nat) : Int) ∧ ((k : Nat) : Int) < 2 ^ 64 := ⟨by omega, by omega⟩
section
variable {P : Program} {w : World} {K : PySem.W.Frag} {mg : Str → Option Value} {base : Heap}
theorem ok_party {f : Addr} {fd : FuncData} (F : Fun K "party_on_turn" "party_on_turn" sParty f fd) (len : mg "len" = none) (range : mg "range" = none) : FnOk P w K mg base CX0 1 f fd ["seats", "had"] (spParty K) := by
  refine F.ok scParty (fun vs H Q E h => ?_) (fun cdv A outer s H vs Q E hr h => ?_)
  · obtain ⟨a, c, h, l, rfl, _⟩ := h
    rfl
  obtain ⟨a, c, h, l, rfl, hf, hS, hC, q⟩ := h
  refine ⟨_, pss_cons (ps_set (i := 2) scParty.nd rfl (Or.inl rfl) pe_int)
    (pss_cons (ps_for PassesOwn.never rfl (pi_range2 rfl range (pa_cons pe_int (pa_cons (pe_callB call_len_seq rfl len PySem.boot_len (pa_cons (pv 0) pa_nil)) pa_nil))) (pg_name (i := 3) scParty.nd rfl (Or.inl rfl))
      (pss_one (ps_if (pt_cmpR op_gt
          (pe_op op_mul (pe_ix ix_list (pv 0) (pv 3) (fun _ _ => rfl)) (pe_op op_add (pe_ix ix_list (pv 1) (pv 2) (fun _ _ => rfl)) pe_int))
          (pe_op op_mul (pe_ix ix_list (pv 0) (pv 2) (fun _ _ => rfl)) (pe_op op_add (pe_ix ix_list (pv 1) (pv 3) (fun _ _ => rfl)) pe_int)) (nomark _))
        (pss_one (ps_set (i := 2) scParty.nd rfl (Or.inl rfl) (pv 3))) pss_nil)))
    (pss_one (ps_ret (pv 2)))), ?_⟩
  have p1 := hf.p1
  have p4 := hf.p4
  have ls : ((((zi h.seats).map V.int).length : Nat) : Int) = (h.seats.length : Int) := by rw [len_zi]
  refine ⟨_, rfl, a, _, rfl, .inl hS, 1, _, rfl, ⟨by decide, by decide, by rw [ls]; omega, by rw [ls]; omega⟩, ?_⟩
  have en : ((((zi h.seats).map V.int).length : Nat) - 1 : Int).toNat = h.seats.length - 1 := by rw [ls]; omega
  rw [en]
  refine for_range (lo := 1) (n := h.seats.length - 1) (fun i σ H' => ∃ v : Option V, σ = [some (.ref a), some (.ref c), some (.int ((best h l (i + 1) : Nat) : Int)), v] ∧ H' = H) ⟨none, by rw [best_one]; rfl, rfl⟩ ?_ ?_
  · rintro i σ H' hi ⟨v, rfl, rfl⟩
    have ei : (1 : Int) + (i : Int) = ((i + 1 : Nat) : Int) := by omega
    rw [ei]
    have hi1 : i + 1 < h.seats.length := by omega
    have hb : best h l (i + 1) < h.seats.length := Nat.lt_trans (best_lt h l i) hi1
    have s1 := at_zi (seat_get (h := h) hi1)
    have s2 := at_zi (seat_get (h := h) hb)
    have c1 := at_zi (hads_get l hi1)
    have c2 := at_zi (hads_get l hb)
    refine ⟨_, rfl, _, rfl, a, _, _, _, rfl, rfl, hS, s1, _, rfl, _, rfl, c, _, _, _, rfl, rfl, hC, c2, _, _, rfl, rfl, _, _, rfl, rfl, .inl (small200 (seat_le hf.sb hi1)),
      _, rfl, _, rfl, a, _, _, _, rfl, rfl, hS, s2, _, rfl, _, rfl, c, _, _, _, rfl, rfl, hC, c1, _, _, rfl, rfl, _, _, rfl, rfl, .inl (small200 (seat_le hf.sb hb)), _, _, rfl, rfl, _, rfl, ?_⟩
    have eq1 : ((Ks466.seat h (best h l (i + 1)) : Nat) : Int) * (((Ks466.had l (i + 1) : Nat) : Int) + 1) = ((Ks466.seat h (best h l (i + 1)) * (Ks466.had l (i + 1) + 1) : Nat) : Int) := by
      rw [Int.natCast_mul]
      rfl
    have eq2 : ((Ks466.seat h (i + 1) : Nat) : Int) * (((Ks466.had l (best h l (i + 1)) : Nat) : Int) + 1) = ((Ks466.seat h (i + 1) * (Ks466.had l (best h l (i + 1)) + 1) : Nat) : Int) := by
      rw [Int.natCast_mul]
      rfl
    rw [eq1, eq2]
    refine ite2 (fun e => ?_) (fun e => ?_)
    · have e' := Int.ofNat_lt.mp (of_decide_eq_true e)
      refine ⟨_, rfl, some (.int ((i + 1 : Nat) : Int)), ?_, rfl⟩
      rw [best_succ h l (i + 1)]
      unfold pick
      rw [if_pos e']
      rfl
    · have e' : ¬ _ := fun z => of_decide_eq_false (Bool.eq_false_iff.mpr e) (Int.ofNat_lt.mpr z)
      refine ⟨some (.int ((i + 1 : Nat) : Int)), ?_, rfl⟩
      rw [best_succ h l (i + 1)]
      unfold pick
      rw [if_neg e']
      rfl
  · rintro σ H' ⟨v, rfl, rfl⟩
    have e1 : h.seats.length - 1 + 1 = h.seats.length := by omega
    rw [e1]
    exact ⟨_, rfl, q⟩
theorem has_party (D : Def K mg "party_on_turn" sParty ["seats", "had"]) (len : mg "len" = none) (range : mg "range" = none) : Has P w K mg base 1 "party_on_turn" ["seats", "had"] (spParty K) := by
  obtain ⟨f, fd, F, m, b⟩ := D
  exact ⟨f, fd, ok_party F len range, m, F.kp, b⟩
end
end Tw
/-! ### choosers -/
namespace Tw
open PySem PySem.Spec PyProof.Rows L2 Tm
abbrev sChoosers : Stmt := top 10
def spChoosers (K : PySem.W.Frag) : Sp := fun vs H Q _ => ∃ (a : Addr) (h : Ks466.House), vs = [.int ((h.offices : Nat) : Int), .ref a] ∧ Fit h ∧ SqL K H a ((zi h.seats).map V.int) ∧
  ∀ (H' : Hp) (p : Addr), Same H H' → H p = none → H' p = some (.lst ((zi (Ks466.order h)).map V.int)) → Q (.ref p) H'
theorem scChoosers : FnScope ["n", "seats", "had", "parties", "turn", "party"] ["n", "seats"] (defScope sChoosers) := ⟨rfl, rfl, rfl, by decide +kernel, rfl, by decide +kernel, by decide +kernel⟩
theorem rep_zero (m : Nat) : (List.replicate m [V.int 0]).flatten = (zi (hads m [])).map V.int := by
  rw [hads_nil]
  unfold zi
  rw [List.map_replicate, List.map_replicate]
  induction m with
  | zero => rfl
  | succ m ih =>
    rw [List.replicate_succ, List.flatten_cons, ih, List.replicate_succ]
    rfl
section
variable {P : Program} {w : World} {K : PySem.W.Frag} {mg : Str → Option Value} {base : Heap}
theorem ok_choosers {f : Addr} {fd : FuncData} (F : Fun K "choosers" "choosers" sChoosers f fd) (len : mg "len" = none) (range : mg "range" = none) (W : Has P w K mg base 1 "party_on_turn" ["seats", "had"] (spParty K)) : FnOk P w K mg base CX0 2 f fd ["n", "seats"] (spChoosers K) := by
  obtain ⟨fW, dW, G, mW, kW, bW⟩ := W
  refine F.ok scChoosers (fun vs H Q E h => ?_) (fun cdv A outer s H vs Q E hr h => ?_)
  · obtain ⟨a, h, rfl, _⟩ := h
    rfl
  obtain ⟨a, h, rfl, hf, hS, q⟩ := h
  refine ⟨_, pss_cons (ps_set (i := 2) scChoosers.nd rfl (Or.inl rfl) (pe_op op_rep (pe_lst (pa_cons pe_int pa_nil)) (pe_callB call_len_seq rfl len PySem.boot_len (pa_cons (pv 1) pa_nil))))
    (pss_cons (ps_set (i := 3) scChoosers.nd rfl (Or.inl rfl) (pe_lst pa_nil))
    (pss_cons (ps_for PassesOwn.never rfl (pi_range1 rfl range (pa_cons (pv 0) pa_nil)) (pg_name (i := 4) scChoosers.nd rfl (Or.inl rfl))
      (pss_cons (ps_set (i := 5) scChoosers.nd rfl (Or.inl rfl) (pe_call G hr rfl mW kW bW .nil pass0 (pa_cons (pv 1) (pa_cons (pv 2) pa_nil))))
      (pss_cons (ps_expr (pe_bm PySem.F.plainAttrs_list PySem.F.slot_list_append PySem.F.type_list_append mt_append (pv 3) (pa_cons (pv 5) pa_nil)))
      (pss_one (ps_asg (pe_op op_add (pe_ix ix_list (pv 2) (pv 5) (fun _ _ => rfl)) pe_int) (pg_sub (pv 2) (pv 5) set_list))))))
    (pss_one (ps_ret (pv 3))))), ?_⟩
  have p1 := hf.p1
  have p4 := hf.p4
  have n5 := hf.n5
  have ls : ((((zi h.seats).map V.int).length : Nat) : Int) = (h.seats.length : Int) := by rw [len_zi]
  have ln : ((((zi h.seats).map V.int).length : Nat) : Int).toNat = h.seats.length := by rw [ls]; omega
  refine ⟨(by show 1 ≤ sizeLine; decide), fun z hz => ?_⟩
  have g0 : Same H (upd H z (.lst [.int 0])) := same_new hz _
  refine ⟨_, rfl, a, _, rfl, .inl (g0.seq hS), z, _, _, rfl, rfl, upd_same, (by rw [ls]; omega), (by rw [ls]; omega), (by rw [ln]; exact small (by show 1 * h.seats.length ≤ 1000; omega)), fun c hc => ?_⟩
  rw [ln, rep_zero]
  have g1 : Same H (upd (upd H z (.lst [.int 0])) c (.lst ((zi (hads h.seats.length [])).map V.int))) := g0.trans (same_new hc _)
  have hc0 : H c = none := g0.free hc
  refine ⟨(by show 0 ≤ sizeLine; decide), fun p hp => ?_⟩
  have g2 := g1.trans (same_new hp (.lst []))
  have hp0 : H p = none := g1.free hp
  have ne : c ≠ p := fun e => by
    rw [← e, upd_same] at hp
    cases hp
  refine ⟨_, rfl, _, rfl, by omega, by omega, for_range (lo := 0) (n := ((h.offices : Nat) : Int).toNat) (fun i σ H' => ∃ v4 v5 : Option V, σ = [some (.int ((h.offices : Nat) : Int)), some (.ref a), some (.ref c), some (.ref p), v4, v5] ∧ Same H H' ∧
      H' c = some (.lst ((zi (hads h.seats.length (Ks466.turns h i []))).map V.int)) ∧ H' p = some (.lst ((zi (Ks466.turns h i [])).map V.int)))
    ⟨none, none, rfl, g2, ?_, upd_same⟩ ?_ ?_⟩
  · rw [upd_ne ne]
    exact upd_same
  · rintro i σ H' hi ⟨v4, v5, rfl, g, ec, ep⟩
    have ht := turn_lt h (Ks466.turns h i []) p1
    have hl : (Ks466.turns h i []).length = i := by
      rw [turns_length]
      exact Nat.zero_add _
    refine ⟨_, rfl, _, rfl, a, c, h, _, rfl, hf, g.seq hS, SqL.of ec, ?_⟩
    refine ⟨_, rfl, .inl ⟨rfl, _, SqL.of ep⟩, _, rfl, p, _, _, rfl, rfl, ep, (by rw [len_zi, hl]; exact smallL (by omega)), ?_⟩
    have ec' : (upd H' p (.lst ((zi (Ks466.turns h i [])).map V.int ++ [V.int ((Ks466.turn h (Ks466.turns h i []) : Nat) : Int)]))) c = some (.lst ((zi (hads h.seats.length (Ks466.turns h i []))).map V.int)) := by
      rw [upd_ne ne]
      exact ec
    refine ⟨_, rfl, _, rfl, c, _, _, _, rfl, rfl, SqL.of ec', at_zi (hads_get _ ht), _, _, rfl, rfl, _, rfl, _, rfl, c, _, _, _, rfl, rfl, ec', Evl.ixN_nat (by rw [len_zi, hads_length]; exact ht), ?_⟩
    refine ⟨_, _, rfl, same_mut (same_mut g hp0) hc0, ?_, ?_⟩
    · rw [upd_same, turns_succ, hads_app, ← set_zi]
      rfl
    · rw [upd_ne (Ne.symm ne), upd_same, turns_succ, app_zi]
  · rintro σ H' ⟨v4, v5, rfl, g, ec, ep⟩
    exact ⟨_, rfl, q H' p g hp0 ep⟩
theorem has_choosers (D : Def K mg "choosers" sChoosers ["n", "seats"]) (len : mg "len" = none) (range : mg "range" = none) (W : Has P w K mg base 1 "party_on_turn" ["seats", "had"] (spParty K)) : Has P w K mg base 2 "choosers" ["n", "seats"] (spChoosers K) := by
  obtain ⟨f, fd, F, m, b⟩ := D
  exact ⟨f, fd, ok_choosers F len range W, m, F.kp, b⟩
end
end Tw
/-! ### addresses of things of one kind; {key: value} with a tuple for its key -/
namespace Tw
open PySem PySem.Spec PyProof.Rows L2 Tm
/-- at the addresses stand the things of a list, each by f -/
inductive Ats {α : Type} (H : Hp) (f : α → HO) : List Addr → List α → Prop
  | nil : Ats H f [] []
  | cons {q : Addr} {x : α} {as : List Addr} {xs : List α} : H q = some (f x) → Ats H f as xs → Ats H f (q :: as) (x :: xs)
section
variable {α : Type} {H H' : Hp} {f : α → HO}
theorem Ats.same : ∀ {as : List Addr} {xs : List α}, Ats H f as xs → Same H H' → Ats H' f as xs
  | _, _, .nil, _ => .nil
  | _, _, .cons h t, e => .cons (e _ _ h) (t.same e)
theorem Ats.length : ∀ {as : List Addr} {xs : List α}, Ats H f as xs → as.length = xs.length
  | _, _, .nil => rfl
  | _, _, .cons _ t => congrArg (· + 1) t.length
theorem Ats.append : ∀ {as bs : List Addr} {xs ys : List α}, Ats H f as xs → Ats H f bs ys → Ats H f (as ++ bs) (xs ++ ys)
  | _, _, _, _, .nil, u => u
  | _, _, _, _, .cons h t, u => .cons h (t.append u)
theorem Ats.get : ∀ {as : List Addr} {xs : List α} {j : Nat} {q : Addr}, Ats H f as xs → as[j]? = some q → ∃ x, xs[j]? = some x ∧ H q = some (f x)
  | _, _, j, q, .nil, e => by simp at e
  | _, _, 0, q, .cons (x := x) h t, e => by
    have e1 := Option.some.inj e
    subst e1
    exact ⟨x, rfl, h⟩
  | _, _, j + 1, q, .cons h t, e => t.get (j := j) e
theorem Ats.at : ∀ {as : List Addr} {xs : List α} {j : Nat} {x : α}, Ats H f as xs → xs[j]? = some x → ∃ q, as[j]? = some q ∧ H q = some (f x)
  | _, _, j, x, .nil, e => by simp at e
  | _, _, 0, x, .cons (q := q) h t, e => by
    have e1 := Option.some.inj e
    subst e1
    exact ⟨q, rfl, h⟩
  | _, _, j + 1, x, .cons h t, e => t.at (j := j) e
/-- another object may change -/
theorem Ats.but {D : Addr} {o : HO} : ∀ {as : List Addr} {xs : List α}, Ats H f as xs → Same H H' → D ∉ as → Ats (upd H' D o) f as xs
  | _, _, .nil, _, _ => .nil
  | _, _, .cons (q := q) h t, e, n => .cons (by rw [upd_ne fun z => n (by rw [z]; exact List.mem_cons_self)]; exact e _ _ h) (t.but e fun z => n (List.mem_cons_of_mem _ z))
theorem Ats.nin {D : Addr} {o : HO} (hD : H D = some o) (ne : ∀ x, f x ≠ o) : ∀ {as : List Addr} {xs : List α}, Ats H f as xs → D ∉ as
  | _, _, .nil, z => by cases z
  | _, _, .cons (x := x) h t, z => by
    rcases List.mem_cons.mp z with e | e
    · rw [← e, hD] at h
      exact ne x (Option.some.inj h).symm
    · exact t.nin hD ne e
theorem Ats.drop1 : ∀ {as : List Addr} {xs : List α}, Ats H f as xs → Ats H f (as.drop 1) (xs.drop 1)
  | _, _, .nil => .nil
  | _, _, .cons _ t => t
end
theorem ne_of_none' {H : Hp} {a b : Addr} {o : HO} (h : H a = some o) (h' : H b = none) : b ≠ a := Ne.symm (ne_of_none h h')
theorem get_ref {as : List Addr} {i : Nat} {y : V} (hi : (as.map V.ref)[i]? = some y) : ∃ q, as[i]? = some q ∧ y = V.ref q := by
  rw [List.getElem?_map] at hi
  cases e : as[i]? with
  | none =>
    rw [e] at hi
    cases hi
  | some z =>
    rw [e] at hi
    exact ⟨z, rfl, (Option.some.inj hi).symm⟩
theorem app_ref (as : List Addr) (q : Addr) : as.map V.ref ++ [V.ref q] = (as ++ [q]).map V.ref := by
  rw [List.map_append]
  rfl
def oT (l : List Nat) : HO := .tup ((zi l).map V.int)
def oL (l : List Nat) : HO := .lst ((zi l).map V.int)
theorem Ats.mut {H H' : Hp} {D : Addr} {o : HO} {ys : List V} {as : List Addr} {xs : List (List Nat)} (t : Ats H oT as xs) (e : Same H H') (hD : H D = some (.lst ys)) : Ats (upd H' D o) oT as xs := t.but e (t.nin hD fun x z => by cases z)
/-- a part of the offices as a key -/
def keyOf (l : List Nat) : List Key := l.map fun x => Sum.inl ((x : Nat) : Int)
theorem key_map (l : List Nat) : (keyOf l).map kV = (zi l).map V.int := by
  unfold keyOf zi
  rw [List.map_map, List.map_map]
  rfl
theorem key_inj : ∀ {l m : List Nat}, keyOf l = keyOf m → l = m
  | [], [], _ => rfl
  | [], _ :: _, e => by cases e
  | _ :: _, [], e => by cases e
  | a :: l, b :: m, e => by
    have e' : (Sum.inl ((a : Nat) : Int) : Key) :: keyOf l = Sum.inl ((b : Nat) : Int) :: keyOf m := e
    injection e' with e1 e2
    injection e1 with e3
    have e4 : a = b := by omega
    rw [e4, key_inj e2]
theorem in_zi (i : Nat) : ∀ l : List Nat, inV (.int (i : Int)) ((zi l).map V.int) = decide (i ∈ l)
  | [] => by simp [inV, zi]
  | a :: l => by
    have ih := in_zi i l
    show (((a : Int) == (i : Int)) || inV (.int (i : Int)) ((zi l).map V.int)) = _
    rw [ih, Bool.eq_iff_iff]
    have e : ((a : Int) = (i : Int)) ↔ i = a := by omega
    simp only [Bool.or_eq_true, beq_iff_eq, decide_eq_true_eq, List.mem_cons, e]
theorem flat_zi : ∀ l : List Nat, ((zi l).map V.int).all flatV = true
  | [] => rfl
  | a :: l => by
    show (true && ((zi l).map V.int).all flatV) = true
    rw [flat_zi l]
    rfl
/-- {k: v}, k a tuple: the new dict stands empty while both are made -/
def tDisp1T (tk tv : TE) : TE := fun σ H Q => ∀ p, H p = none → tk σ (upd H p (.dT [])) fun x H1 => tv σ H1 fun y H2 => H2 p = some (.dT []) ∧ ∃ (k : List Key) (b : Addr), x = .ref b ∧ H2 b = some (.tup (k.map kV)) ∧ Q (.ref p) (upd H2 p (.dT [(k, y)]))
theorem pe_disp1T {X : Cx} {pos : Pos} {k v : Expr} {tk tv : TE} (hu : X.A.units + 1 < cLine) (hk : PE X k tk) (hv : PE X v tv) : PE X (.Dict [some k] [v] pos) (tDisp1T tk tv) := by
  refine ⟨fun pins s σ H Q I q => ?_⟩
  have hn := I.hok.fresh (Nat.le_refl s.heap.objs.size)
  have I1 := I.laid (a := s.heap.objs.size) (o := .dT []) (h' := s.heap.push { cls := .type "dict", data := .dict #[] }) (t' := s.toks) (fun _ _ q => Heap.get?_push_of_some _ q) (Nat.le_refl _) (dt_empty s.heap I.big)
  have hroom : (tupleKind (mixKind X.prog X.w)).room X.A := by
    show X.A.units < cLine
    omega
  rw [arm_eval_Dict, zip_pairTrees [some k] [v] X.env pos rfl rfl, dictDisplay_pairs (pairTrees [some k] [v] X.env pos) (by intro z; cases z) (by show 1 < _; decide)]
  refine wpAny_bind (wpAny_standAt (wpAny_bind (wpAny_subDictH (knd := tupleKind (mixKind X.prog X.w)) (Q := fun d s' => wpAny (model X.prog X.w) X.A (pure (Value.ref d)) _ X.xe s') hroom (by show 1 ≤ 15; decide) ?_)))
  refine pairTrees_cons_walk (thn (hk.run pins _ σ _ _ I1 (q _ hn)) fun u s1 ⟨x, H1, I2, rx, q1⟩ => thn (hv.run pins s1 σ H1 _ I2 q1) fun w2 s2 ⟨y, H2, I3, ry, e, kk, b, ex, eb, q2⟩ => pairTrees_nil_walk ?_)
  subst ex
  cases (show u = Value.ref b from rx)
  obtain ⟨z, hd, xs, rel, dd⟩ := dt_of I3.hok e
  cases rel
  refine ⟨[(kk, b, w2)], ⟨rfl, rfl, key_of I3.hok eb, True.intro⟩, dd, fun h' tk dd' hs => wpAny_pure ⟨.ref s.heap.objs.size, _, ?_, rfl, q2⟩⟩
  obtain ⟨q', es, ep, hq, h2, h3, h4, _, h5⟩ := dd'
  refine d_write I3 (by rw [e]; exact True.intro) hs ⟨q', hq⟩ ⟨by show 1 ≤ sizeLine; decide, hd, [(kk, b, w2)], ?_, q', es, ep, hq, h2, h3, h4, h5⟩
  have r : KT H2 [(kk, y)] [(kk, b, w2)] := .cons ⟨rfl, eb, ry⟩ .nil
  refine r.keeps fun c ys ec => ?_
  rw [upd_ne (ne_of ec e (fun z => nomatch z))]
  exact ec
end Tw
/-! ### worths_of -/
namespace Tw
open PySem PySem.Spec PyProof.Rows L2 Tm
abbrev sOwn : Stmt := top 14
def spOwn (K : PySem.W.Frag) : Sp := fun vs H Q _ => ∃ (b : Addr) (n : Int) (s w : List Int) (N : Nat) (S W : List Nat) (p : Nat), vs = [.int ((N : Nat) : Int), .int ((p : Nat) : Int), .ref b] ∧ Ok n s w N S W ∧ p < S.length ∧ SqL K H b ((zi W).map V.int) ∧
  ∀ (H' : Hp) (r : Addr), Same H H' → H r = none → H' r = some (.lst ((zi ((house n s w).worth.getD p [])).map V.int)) → Q (.ref r) H'
theorem scOwn : FnScope ["n", "party", "worth"] ["n", "party", "worth"] (defScope sOwn) := ⟨rfl, rfl, rfl, by decide +kernel, rfl, by decide +kernel, by decide +kernel⟩
theorem cut_zi (W : List Nat) (p N : Nat) (hp : (p + 1) * N ≤ W.length) : cutV ((zi W).map V.int) (some ((p * N : Nat) : Int)) (some ((p * N + N : Nat) : Int)) = (zi ((W.drop (p * N)).take N)).map V.int := by
  unfold cutV
  rw [HT.sIx_nat, HT.sIx_nat, len_zi]
  rw [Nat.succ_mul] at hp
  have m1 : min (p * N) W.length = p * N := Nat.min_eq_left (by omega)
  have m2 : min (p * N + N) W.length = p * N + N := Nat.min_eq_left hp
  rw [m1, m2]
  have e : p * N + N - p * N = N := by omega
  rw [e]
  unfold zi
  rw [← List.map_drop, ← List.map_drop, ← List.map_take, ← List.map_take]
theorem row_len {n : Int} {s w : List Int} {N : Nat} {S W : List Nat} (o : Ok n s w N S W) {p : Nat} (hp : p < S.length) : ((house n s w).worth.getD p []).length = N := by
  rw [row_of o hp]
  exact row_length o hp
section
variable {P : Program} {w : World} {K : PySem.W.Frag} {mg : Str → Option Value} {base : Heap}
theorem ok_own {f : Addr} {fd : FuncData} (F : Fun K "worths_of" "worths_of" sOwn f fd) : FnOk P w K mg base CX0 1 f fd ["n", "party", "worth"] (spOwn K) := by
  refine F.ok scOwn (fun vs H Q E h => ?_) (fun cdv A outer s H vs Q E hr h => ?_)
  · obtain ⟨b, n, s, w, N, S, W, p, rfl, _⟩ := h
    rfl
  obtain ⟨b, n, s, w, N, S, W, p, rfl, o, hpS, hB, q⟩ := h
  refine ⟨_, pss_one (ps_ret (pe_slice sl_list (pv 2) (po_some (pe_op op_mul (pv 1) (pv 0))) (po_some (pe_op op_add (pe_op op_mul (pv 1) (pv 0)) (pv 0))))), ?_⟩
  have p4 := o.p4
  have em : ((p : Nat) : Int) * ((N : Nat) : Int) = ((p * N : Nat) : Int) := (Int.natCast_mul p N).symm
  have ea : ((p : Nat) : Int) * ((N : Nat) : Int) + ((N : Nat) : Int) = ((p * N + N : Nat) : Int) := by
    rw [em]
    rfl
  have hw1 : (p + 1) * N ≤ W.length := by
    rw [o.wl, Nat.mul_comm N]
    exact Nat.mul_le_mul_right N hpS
  refine ⟨_, rfl, _, rfl, _, rfl, _, _, rfl, rfl, .inl ⟨by omega, by omega⟩, _, rfl, _, rfl, _, rfl, _, _, rfl, rfl, .inl ⟨by omega, by omega⟩, _, rfl, _, _, rfl, rfl, _, rfl, b, _, rfl, hB, fun r hr' => ?_⟩
  rw [ea, em, cut_zi W p N hw1, ← row_of o hpS]
  exact q _ r (same_new hr' _) hr' upd_same
theorem has_own (D : Def K mg "worths_of" sOwn ["n", "party", "worth"]) : Has P w K mg base 1 "worths_of" ["n", "party", "worth"] (spOwn K) := by
  obtain ⟨f, fd, F, m, b⟩ := D
  exact ⟨f, fd, ok_own F, m, F.kp, b⟩
end
end Tw
/-! ### worth_most -/
namespace Tw
open PySem PySem.Spec PyProof.Rows L2 Tm
abbrev sMost : Stmt := top 15
def spMost (K : PySem.W.Frag) : Sp := fun vs H Q _ => ∃ (a c : Addr) (h : Ks466.House) (i : Nat) (F : List Nat), vs = [.ref a, .ref c] ∧ F ≠ [] ∧ (∀ x ∈ F, x < (h.worth.getD i []).length) ∧ (SqL K H a ((zi F).map V.int) ∨ H a = some (oT F)) ∧ SqL K H c ((zi (h.worth.getD i [])).map V.int) ∧ Q (.int ((top1 h i F F.length : Nat) : Int)) H
theorem scMost : FnScope ["free", "own_worth", "best", "office"] ["free", "own_worth"] (defScope sMost) := ⟨rfl, rfl, rfl, by decide +kernel, rfl, by decide +kernel, by decide +kernel⟩
theorem worth_get {h : Ks466.House} {i o : Nat} (c : o < (h.worth.getD i []).length) : (h.worth.getD i [])[o]? = some (Ks466.worth h i o) := by
  unfold Ks466.worth
  rw [List.getD_eq_getElem?_getD (l := h.worth.getD i []), List.getElem?_eq_getElem c]
  rfl
section
variable {P : Program} {w : World} {K : PySem.W.Frag} {mg : Str → Option Value} {base : Heap}
theorem ok_most {f : Addr} {fd : FuncData} (F : Fun K "worth_most" "worth_most" sMost f fd) : FnOk P w K mg base CX0 1 f fd ["free", "own_worth"] (spMost K) := by
  refine F.ok scMost (fun vs H Q E h => ?_) (fun cdv A outer s H vs Q E hr h => ?_)
  · obtain ⟨a, c, h, i, l, rfl, _⟩ := h
    rfl
  obtain ⟨a, c, h, i, l, rfl, hne, hlt, hS, hC, q⟩ := h
  have h0 : l[0]? = some (l.headD 0) := by
    cases l with
    | nil => exact absurd rfl hne
    | cons x r => rfl
  have a0 : atI ((zi l).map V.int) 0 = some (V.int ((l.headD 0 : Nat) : Int)) := at_zi h0
  rcases hS with hS | hS
  · refine ⟨_, pss_cons (ps_set (i := 2) scMost.nd rfl (Or.inl rfl) (pe_ix ix_list (pv 0) pe_int (fun _ _ => rfl)))
      (pss_cons (ps_for PassesOwn.never rfl (pi_list (pv 0)) (pg_name (i := 3) scMost.nd rfl (Or.inl rfl))
        (pss_one (ps_if (pt_cmpR op_gt (pe_ix ix_list (pv 1) (pv 3) (fun _ _ => rfl)) (pe_ix ix_list (pv 1) (pv 2) (fun _ _ => rfl)) (nomark _))
          (pss_one (ps_set (i := 2) scMost.nd rfl (Or.inl rfl) (pv 3))) pss_nil)))
      (pss_one (ps_ret (pv 2)))), ?_⟩
    refine ⟨_, rfl, a, _, _, _, rfl, rfl, hS, a0, ?_⟩
    refine ⟨_, rfl, a, rfl, ⟨_, hS⟩, for_list (K := K) (a := a) (xs := (zi l).map V.int) (fun k σ H' => ∃ v : Option V, σ = [some (.ref a), some (.ref c), some (.int ((top1 h i l k : Nat) : Int)), v] ∧ H' = H)
      ⟨none, rfl, rfl⟩ (fun i σ H' _ ⟨_, _, e⟩ => by rw [e]; exact hS) ?_ ?_⟩
    · rintro k y σ H' hk ⟨v, rfl, rfl⟩
      obtain ⟨o, ho, rfl⟩ := get_zi hk
      have w1 := at_zi (worth_get (h := h) (i := i) (hlt o (List.mem_of_getElem? ho)))
      have w2 := at_zi (worth_get (h := h) (i := i) (hlt _ (top1_mem (h := h) (i := i) hne k)))
      refine ⟨_, rfl, _, rfl, c, _, _, _, rfl, rfl, hC, w1, _, rfl, _, rfl, c, _, _, _, rfl, rfl, hC, w2, _, _, rfl, rfl, _, rfl, ?_⟩
      refine ite2 (fun e => ?_) (fun e => ?_)
      · have e' := Int.ofNat_lt.mp (of_decide_eq_true e)
        refine ⟨_, rfl, some (.int ((o : Nat) : Int)), ?_, rfl⟩
        rw [top1_succ ho]
        unfold more
        rw [if_pos e']
        rfl
      · have e' : ¬ _ := fun z => of_decide_eq_false (Bool.eq_false_iff.mpr e) (Int.ofNat_lt.mpr z)
        refine ⟨some (.int ((o : Nat) : Int)), ?_, rfl⟩
        rw [top1_succ ho]
        unfold more
        rw [if_neg e']
        rfl
    · rintro σ H' ⟨v, rfl, rfl⟩
      rw [len_zi]
      exact ⟨_, rfl, q⟩
  · have hS' : SqT K H a ((zi l).map V.int) := SqT.of hS
    refine ⟨_, pss_cons (ps_set (i := 2) scMost.nd rfl (Or.inl rfl) (pe_ix ix_tup (pv 0) pe_int (fun _ _ => rfl)))
      (pss_cons (ps_for PassesOwn.never rfl (pi_tup (pv 0)) (pg_name (i := 3) scMost.nd rfl (Or.inl rfl))
        (pss_one (ps_if (pt_cmpR op_gt (pe_ix ix_list (pv 1) (pv 3) (fun _ _ => rfl)) (pe_ix ix_list (pv 1) (pv 2) (fun _ _ => rfl)) (nomark _))
          (pss_one (ps_set (i := 2) scMost.nd rfl (Or.inl rfl) (pv 3))) pss_nil)))
      (pss_one (ps_ret (pv 2)))), ?_⟩
    refine ⟨_, rfl, a, _, _, _, rfl, rfl, hS', a0, ?_⟩
    refine ⟨_, rfl, a, rfl, ⟨_, hS'⟩, for_tup (K := K) (a := a) (xs := (zi l).map V.int) (fun k σ H' => ∃ v : Option V, σ = [some (.ref a), some (.ref c), some (.int ((top1 h i l k : Nat) : Int)), v] ∧ H' = H)
      ⟨none, rfl, rfl⟩ (fun i σ H' _ ⟨_, _, e⟩ => by rw [e]; exact hS') ?_ ?_⟩
    · rintro k y σ H' hk ⟨v, rfl, rfl⟩
      obtain ⟨o, ho, rfl⟩ := get_zi hk
      have w1 := at_zi (worth_get (h := h) (i := i) (hlt o (List.mem_of_getElem? ho)))
      have w2 := at_zi (worth_get (h := h) (i := i) (hlt _ (top1_mem (h := h) (i := i) hne k)))
      refine ⟨_, rfl, _, rfl, c, _, _, _, rfl, rfl, hC, w1, _, rfl, _, rfl, c, _, _, _, rfl, rfl, hC, w2, _, _, rfl, rfl, _, rfl, ?_⟩
      refine ite2 (fun e => ?_) (fun e => ?_)
      · have e' := Int.ofNat_lt.mp (of_decide_eq_true e)
        refine ⟨_, rfl, some (.int ((o : Nat) : Int)), ?_, rfl⟩
        rw [top1_succ ho]
        unfold more
        rw [if_pos e']
        rfl
      · have e' : ¬ _ := fun z => of_decide_eq_false (Bool.eq_false_iff.mpr e) (Int.ofNat_lt.mpr z)
        refine ⟨some (.int ((o : Nat) : Int)), ?_, rfl⟩
        rw [top1_succ ho]
        unfold more
        rw [if_neg e']
        rfl
    · rintro σ H' ⟨v, rfl, rfl⟩
      rw [len_zi]
      exact ⟨_, rfl, q⟩
theorem has_most (D : Def K mg "worth_most" sMost ["free", "own_worth"]) : Has P w K mg base 1 "worth_most" ["free", "own_worth"] (spMost K) := by
  obtain ⟨f, fd, F, m, b⟩ := D
  exact ⟨f, fd, ok_most F, m, F.kp, b⟩
end
end Tw
/-! ### without -/
namespace Tw
open PySem PySem.Spec PyProof.Rows L2 Tm
abbrev sWithout : Stmt := top 18
def spWithout (K : PySem.W.Frag) : Sp := fun vs H Q _ => ∃ (a : Addr) (F : List Nat) (o : Nat), vs = [.ref a, .int ((o : Nat) : Int)] ∧ F.length ≤ 100 ∧ H a = some (oT F) ∧
  ∀ (H' : Hp) (r : Addr), Same H H' → H r = none → H' r = some (oT (F.filter fun x => x != o)) → Q (.ref r) H'
abbrev nWithout : List Str := ["offices", "office", "other"]
theorem scWithout : FnScope nWithout ["offices", "office"] (defScope sWithout) := ⟨rfl, rfl, rfl, by decide +kernel, rfl, by decide +kernel, by decide +kernel⟩
section
variable {P : Program} {w : World} {K : PySem.W.Frag} {mg : Str → Option Value} {base : Heap}
theorem ok_without {f : Addr} {fd : FuncData} (F : Fun K "without" "without" sWithout f fd) (tuple : mg "tuple" = none) : FnOk P w K mg base CX0 1 f fd ["offices", "office"] (spWithout K) := by
  refine F.ok scWithout (fun vs H Q E h => ?_) (fun cdv A outer s H vs Q E hr h => ?_)
  · obtain ⟨a, l, o, rfl, _⟩ := h
    rfl
  obtain ⟨a, l, o, rfl, hl, hA, q⟩ := h
  refine ⟨_, pss_one (ps_ret (pe_tupleOf rfl tuple (pe_lc (own := [("other", 2)]) (g := gName 2) rfl scWithout.nd (pi_tup (pv 0)) (blkOk_by (own := [("other", 2)]) (N := nWithout) (sc := defScope sWithout) (by decide +kernel))
    (fun _ _ _ _ _ => pg_name (i := 2) scWithout.nd rfl (Or.inl rfl)) (fun _ _ _ _ _ => pts_one (pt_cmpR op_ne (pv 2) (pv 1) (nomark _))) (fun _ _ _ _ _ => pv 2)))), ?_⟩
  refine ⟨_, rfl, a, rfl, ⟨_, SqT.of hA⟩, fun D hD => lc_tup (K := K) (a := a) (xs := (zi l).map V.int) (fun i H' => Same H H' ∧ H' D = some (.lst ((zi ((l.take i).filter fun x => x != o)).map V.int)))
    ⟨same_new hD _, upd_same⟩ (fun i H' _ ⟨g, _⟩ => SqT.of (g _ _ hA)) ?_ ?_⟩
  · rintro i y H' hi ⟨g, eD⟩
    obtain ⟨x, hx, rfl⟩ := get_zi hi
    refine ⟨rfl, _, rfl, _, rfl, rfl, _, rfl, ?_⟩
    have e1 : (l.take (i + 1)).filter (fun x => x != o) = (l.take i).filter (fun x => x != o) ++ ([x].filter fun x => x != o) := by
      rw [List.take_add_one, hx, List.filter_append]
      rfl
    have lt : ((l.take i).filter fun x => x != o).length ≤ 100 := Nat.le_trans (List.length_filter_le _ _) (Nat.le_trans (by rw [List.length_take]; exact Nat.min_le_right _ _) hl)
    refine ite2 (fun e => ?_) (fun e => ?_)
    · have ne : x ≠ o := fun z => by
        rw [z] at e
        simp at e
      have e2 : ([x].filter fun x => x != o) = [x] := by
        have h3 : (x != o) = true := by simpa using ne
        rw [List.filter_cons, if_pos h3]
        rfl
      refine ⟨_, rfl, _, eD, (by rw [len_zi]; exact smallL (by omega)), same_mut g hD, ?_⟩
      rw [upd_same, e1, e2, app_zi]
    · have eq : x = o := by
        by_cases z : x = o
        · exact z
        · exfalso
          apply e
          have z' : ¬ (V.int ((x : Nat) : Int) = V.int ((o : Nat) : Int)) := fun u => by
            injection u with u
            omega
          rw [decide_eq_false z']
          rfl
      have e2 : ([x].filter fun x => x != o) = [] := by
        rw [eq]
        simp
      refine ⟨g, ?_⟩
      rw [e1, e2, List.append_nil]
      exact eD
  · rintro H' ⟨g, eD⟩
    rw [len_zi, List.take_length] at eD
    refine .inl ⟨D, _, rfl, SqL.of eD, fun r hr' => ?_⟩
    exact q _ r (g.trans (same_new hr' _)) (g.free hr') upd_same
theorem has_without (D : Def K mg "without" sWithout ["offices", "office"]) (tuple : mg "tuple" = none) : Has P w K mg base 1 "without" ["offices", "office"] (spWithout K) := by
  obtain ⟨f, fd, F, m, b⟩ := D
  exact ⟨f, fd, ok_without F tuple, m, F.kp, b⟩
end
end Tw
/-! ### gets -/
namespace Tw
open PySem PySem.Spec PyProof.Rows L2 Tm
abbrev sGets : Stmt := top 20
def spGets (K : PySem.W.Frag) : Sp := fun vs H Q _ => ∃ (a b c : Addr) (n : Int) (s w : List Int) (N : Nat) (S W P O : List Nat) (i : Nat), vs = [.int ((N : Nat) : Int), .int ((i : Nat) : Int), .ref a, .ref b, .ref c] ∧ Ok n s w N S W ∧ i < S.length ∧ P.length = O.length ∧ (∀ x ∈ O, x < N) ∧
  SqL K H a ((zi P).map V.int) ∧ SqL K H b ((zi O).map V.int) ∧ SqL K H c ((zi W).map V.int) ∧ ∀ H' : Hp, Same H H' → Q (.int ((Ks466.gets (house n s w) (P.zip O) i : Nat) : Int)) H'
theorem scGets : FnScope ["n", "party", "parties", "offices", "worth", "together", "chooser", "office"] ["n", "party", "parties", "offices", "worth"] (defScope sGets) := ⟨rfl, rfl, rfl, by decide +kernel, rfl, by decide +kernel, by decide +kernel⟩
theorem worth_flat {n : Int} {s w : List Int} {N : Nat} {S W : List Nat} (o : Ok n s w N S W) {i x : Nat} (hi : i < S.length) (hx : x < N) : W[i * N + x]? = some (Ks466.worth (house n s w) i x) := by
  have hl : x < ((house n s w).worth.getD i []).length := by rw [row_len o hi]; exact hx
  have q := worth_get hl
  rw [← q, row_of o hi, List.getElem?_take, if_pos hx, List.getElem?_drop]
theorem gets_snoc (h : Ks466.House) (l : List (Nat × Nat)) (i p o : Nat) : Ks466.gets h (l ++ [(p, o)]) i = Ks466.gets h l i + (if p = i then Ks466.worth h i o else 0) := by
  rw [gets_app, gets_cons, gets_nil, Nat.add_zero]
section
variable {P : Program} {w : World} {K : PySem.W.Frag} {mg : Str → Option Value} {base : Heap}
theorem ok_gets {f : Addr} {fd : FuncData} (F : Fun K "gets" "gets" sGets f fd) (zip : mg "zip" = none) : FnOk P w K mg base CX0 1 f fd ["n", "party", "parties", "offices", "worth"] (spGets K) := by
  refine F.ok scGets (fun vs H Q E h => ?_) (fun cdv A outer s H vs Q E hr h => ?_)
  · obtain ⟨a, b, c, n, s, w, N, S, W, l, m, i, rfl, _⟩ := h
    rfl
  obtain ⟨a, b, c, n, s, w, N, S, W, l, m, i, rfl, o, hi, hlm, hm, hA, hB, hC, q⟩ := h
  refine ⟨_, pss_cons (ps_set (i := 5) scGets.nd rfl (Or.inl rfl) pe_int)
    (pss_cons (ps_for PassesOwn.never rfl (pi_zip (by rfl) zip (pa_cons (pv 2) (pa_cons (pv 3) pa_nil))) (pg_tup rfl (pgs_cons (pg_name (i := 6) scGets.nd rfl (Or.inl rfl)) (pgs_cons (pg_name (i := 7) scGets.nd rfl (Or.inl rfl)) pgs_nil)))
      (pss_one (ps_if (pt_cmpR op_eq (pv 6) (pv 1) (nomark _))
        (pss_one (ps_set (i := 5) scGets.nd rfl (Or.inl rfl) (pe_op op_add (pv 5) (pe_ix ix_list (pv 4) (pe_op op_add (pe_op op_mul (pv 1) (pv 0)) (pv 7)) (fun _ _ => rfl))))) pss_nil)))
    (pss_one (ps_ret (pv 5)))), ?_⟩
  have p4 := o.p4
  refine ⟨_, rfl, _, rfl, a, b, _, _, rfl, hA, hB, RZ.for_zipL (K := K) (a := a) (b := b) (xs := (zi l).map V.int) (ys := (zi m).map V.int) (by rw [len_zi, len_zi]; exact hlm)
    (fun k σ H' => ∃ v6 v7 : Option V, σ = [some (.int ((N : Nat) : Int)), some (.int ((i : Nat) : Int)), some (.ref a), some (.ref b), some (.ref c), some (.int ((Ks466.gets (house n s w) ((l.zip m).take k) i : Nat) : Int)), v6, v7] ∧ Same H H')
    ⟨none, none, rfl, Same.refl H⟩ (fun k σ H' ⟨_, _, _, g⟩ => ⟨g.seq hA, g.seq hB⟩) ?_ ?_⟩
  · rintro k x y T σ H' hx hy ⟨v6, v7, rfl, g⟩ hT
    obtain ⟨p, hp, rfl⟩ := get_zi hx
    obtain ⟨z, hz, rfl⟩ := get_zi hy
    have g2 : Same H (upd H' T (.tup [V.int ((p : Nat) : Int), V.int ((z : Nat) : Int)])) := g.trans (same_new hT _)
    have ez : (l.zip m)[k]? = some (p, z) := by
      rw [List.getElem?_zip_eq_some]
      exact ⟨hp, hz⟩
    have et : (l.zip m).take (k + 1) = (l.zip m).take k ++ [(p, z)] := by
      rw [List.take_add_one, ez]
      rfl
    refine ⟨T, _, rfl, SqT.of upd_same, rfl, _, _, rfl, _, _, rfl, rfl, ?_⟩
    refine ⟨_, rfl, _, rfl, rfl, _, rfl, ?_⟩
    refine ite2 (fun e => ?_) (fun e => ?_)
    · have e' : p = i := by
        have u := of_decide_eq_true e
        injection u with u
        omega
      have em : ((i : Nat) : Int) * ((N : Nat) : Int) + ((z : Nat) : Int) = ((i * N + z : Nat) : Int) := by
        rw [Int.natCast_add, Int.natCast_mul]
      have aw : atI ((zi W).map V.int) (((i : Nat) : Int) * ((N : Nat) : Int) + ((z : Nat) : Int)) = some (V.int ((Ks466.worth (house n s w) i z : Nat) : Int)) := by
        rw [em]
        exact at_zi (worth_flat o hi (hm z (List.mem_of_getElem? hz)))
      refine ⟨_, rfl, _, rfl, _, rfl, _, rfl, _, _, rfl, rfl, .inl ⟨by omega, by omega⟩, _, rfl, _, _, rfl, rfl, c, _, _, _, rfl, rfl, g2.seq hC, aw, _, _, rfl, rfl, ?_⟩
      refine ⟨some (.int ((p : Nat) : Int)), some (.int ((z : Nat) : Int)), ?_, g2⟩
      rw [et, gets_snoc, if_pos e']
      rfl
    · have e' : ¬ p = i := fun u => by
        rw [u] at e
        exact e (decide_eq_true rfl)
      refine ⟨some (.int ((p : Nat) : Int)), some (.int ((z : Nat) : Int)), ?_, g2⟩
      rw [et, gets_snoc, if_neg e']
      rfl
  · rintro σ H' ⟨v6, v7, rfl, g⟩
    have e : (l.zip m).take ((zi l).map V.int).length = l.zip m := by
      rw [len_zi]
      exact List.take_of_length_le (by rw [List.length_zip]; exact Nat.min_le_left _ _)
    rw [e]
    exact ⟨_, rfl, q H' g⟩
theorem has_gets (D : Def K mg "gets" sGets ["n", "party", "parties", "offices", "worth"]) (zip : mg "zip" = none) : Has P w K mg base 1 "gets" ["n", "party", "parties", "offices", "worth"] (spGets K) := by
  obtain ⟨f, fd, F, m, b⟩ := D
  exact ⟨f, fd, ok_gets F zip, m, F.kp, b⟩
end
end Tw
/-! ### best_course -/
namespace Tw
open PySem PySem.Spec PyProof.Rows L2 Tm
abbrev sBest : Stmt := top 19
def oC (l : List (Nat × Nat)) : HO := .lst ((zi (l.map Prod.snd)).map V.int)
def spBest (K : PySem.W.Frag) : Sp := fun vs H Q _ => ∃ (a b c : Addr) (n : Int) (s w : List Int) (N : Nat) (S W : List Nat) (i : Nat) (r : List Nat) (cs : List (List (Nat × Nat))) (as : List Addr), vs = [.int ((N : Nat) : Int), .ref a, .ref b, .ref c] ∧ Ok n s w N S W ∧ i < S.length ∧ cs ≠ [] ∧
  (∀ l ∈ cs, l.map Prod.fst = i :: r ∧ ∀ x ∈ l, x.2 < N) ∧ SqL K H a ((zi (i :: r)).map V.int) ∧ SqL K H b (as.map V.ref) ∧ Ats H oC as cs ∧ SqL K H c ((zi W).map V.int) ∧
  ∀ (H' : Hp) (q : Addr), Same H H' → H' q = some (oC (bestC (house n s w) i cs cs.length)) → Q (.ref q) H'
theorem scBest : FnScope ["n", "parties", "courses", "worth", "best", "course"] ["n", "parties", "courses", "worth"] (defScope sBest) := ⟨rfl, rfl, rfl, by decide +kernel, rfl, by decide +kernel, by decide +kernel⟩
theorem len_fst {l : List (Nat × Nat)} {P : List Nat} (e : l.map Prod.fst = P) : P.length = (l.map Prod.snd).length := by
  rw [← e, List.length_map, List.length_map]
theorem snd_lt {l : List (Nat × Nat)} {N : Nat} (h : ∀ x ∈ l, x.2 < N) : ∀ x ∈ l.map Prod.snd, x < N := fun x hx => by
  obtain ⟨y, hy, e⟩ := List.mem_map.mp hx
  rw [← e]
  exact h y hy
section
variable {P : Program} {w : World} {K : PySem.W.Frag} {mg : Str → Option Value} {base : Heap}
theorem ok_best {f : Addr} {fd : FuncData} (F : Fun K "best_course" "best_course" sBest f fd) (GT : Has P w K mg base 1 "gets" ["n", "party", "parties", "offices", "worth"] (spGets K)) : FnOk P w K mg base CX0 2 f fd ["n", "parties", "courses", "worth"] (spBest K) := by
  obtain ⟨fG, dG, GG, mG, kG, bG⟩ := GT
  refine F.ok scBest (fun vs H Q E h => ?_) (fun cdv A outer s H vs Q E hr h => ?_)
  · obtain ⟨a, b, c, n, s, w, N, S, W, i, r, cs, as, rfl, _⟩ := h
    rfl
  obtain ⟨a, b, c, n, s, w, N, S, W, i, r, cs, as, rfl, o, hi, hne, hcs, hA, hB, ats, hC, q⟩ := h
  refine ⟨_, pss_cons (ps_set (i := 4) scBest.nd rfl (Or.inl rfl) (pe_ix ix_list (pv 2) pe_int (fun _ _ => rfl)))
    (pss_cons (ps_for PassesOwn.never rfl (pi_list (pv 2)) (pg_name (i := 5) scBest.nd rfl (Or.inl rfl))
      (pss_one (ps_if (pt_cmpR op_gt
          (pe_call GG hr rfl mG kG bG .nil pass0 (pa_cons (pv 0) (pa_cons (pe_ix ix_list (pv 1) pe_int (fun _ _ => rfl)) (pa_cons (pv 1) (pa_cons (pv 5) (pa_cons (pv 3) pa_nil))))))
          (pe_call GG hr rfl mG kG bG .nil pass0 (pa_cons (pv 0) (pa_cons (pe_ix ix_list (pv 1) pe_int (fun _ _ => rfl)) (pa_cons (pv 1) (pa_cons (pv 4) (pa_cons (pv 3) pa_nil)))))) (nomark _))
        (pss_one (ps_set (i := 4) scBest.nd rfl (Or.inl rfl) (pv 5))) pss_nil)))
    (pss_one (ps_ret (pv 4)))), ?_⟩
  have c0 : cs[0]? = some (cs.headD []) := by
    cases cs with
    | nil => exact absurd rfl hne
    | cons x r => rfl
  obtain ⟨q0, hq0, eq0⟩ := ats.at c0
  have i0 : atI ((zi (i :: r)).map V.int) 0 = some (V.int ((i : Nat) : Int)) := at_zi (i := 0) rfl
  have a0 : atI (as.map V.ref) 0 = some (V.ref q0) := atI_nat (j := 0) (by rw [List.getElem?_map, hq0]; rfl)
  refine ⟨_, rfl, b, _, _, _, rfl, rfl, hB, a0, ?_⟩
  refine ⟨_, rfl, b, rfl, ⟨_, hB⟩, for_list (K := K) (a := b) (xs := as.map V.ref) (fun k σ H' => ∃ (p : Addr) (v : Option V), σ = [some (.int ((N : Nat) : Int)), some (.ref a), some (.ref b), some (.ref c), some (.ref p), v] ∧ Same H H' ∧ H' p = some (oC (bestC (house n s w) i cs k)))
    ⟨q0, none, rfl, Same.refl H, eq0⟩ (fun k σ H' _ ⟨_, _, _, g, _⟩ => g.seq hB) ?_ ?_⟩
  · rintro k y σ H' hk ⟨p, v, rfl, g, ep⟩
    obtain ⟨t, ht, rfl⟩ := get_ref hk
    obtain ⟨l, hl, et⟩ := ats.get ht
    have et' := g _ _ et
    obtain ⟨l1, l2⟩ := hcs l (List.mem_of_getElem? hl)
    obtain ⟨b1, b2⟩ := hcs _ (bestC_mem (h := house n s w) (i := i) hne k)
    refine ⟨_, rfl, _, rfl, a, _, _, _, rfl, rfl, g.seq hA, i0, _, rfl, _, rfl, _, rfl, a, t, c, n, s, w, N, S, W, i :: r, l.map Prod.snd, i, rfl, o, hi, len_fst l1, snd_lt l2, g.seq hA, SqL.of et', g.seq hC, fun H2 g2 => ?_⟩
    have g3 := g.trans g2
    refine ⟨_, rfl, _, rfl, a, _, _, _, rfl, rfl, g3.seq hA, i0, _, rfl, _, rfl, _, rfl, a, p, c, n, s, w, N, S, W, i :: r, (bestC (house n s w) i cs k).map Prod.snd, i, rfl, o, hi, len_fst b1, snd_lt b2, g3.seq hA, SqL.of (g2 _ _ ep), g3.seq hC, fun H3 g4 => ?_⟩
    rw [zip_snd l1, zip_snd b1]
    have g5 := g3.trans g4
    refine ⟨_, _, rfl, rfl, _, rfl, ?_⟩
    refine ite2 (fun e => ?_) (fun e => ?_)
    · have e' := Int.ofNat_lt.mp (of_decide_eq_true e)
      refine ⟨_, rfl, t, some (.ref t), rfl, g5, ?_⟩
      rw [bestC_succ hl]
      unfold bet
      rw [if_pos e']
      exact g4 _ _ (g2 _ _ et')
    · have e' : ¬ _ := fun z => of_decide_eq_false (Bool.eq_false_iff.mpr e) (Int.ofNat_lt.mpr z)
      refine ⟨p, some (.ref t), rfl, g5, ?_⟩
      rw [bestC_succ hl]
      unfold bet
      rw [if_neg e']
      exact g4 _ _ (g2 _ _ ep)
  · rintro σ H' ⟨p, v, rfl, g, ep⟩
    rw [List.length_map, ats.length] at ep
    exact ⟨_, rfl, q H' p g ep⟩
theorem has_best (D : Def K mg "best_course" sBest ["n", "parties", "courses", "worth"]) (GT : Has P w K mg base 1 "gets" ["n", "party", "parties", "offices", "worth"] (spGets K)) : Has P w K mg base 2 "best_course" ["n", "parties", "courses", "worth"] (spBest K) := by
  obtain ⟨f, fd, F, m, b⟩ := D
  exact ⟨f, fd, ok_best F GT, m, F.kp, b⟩
end
end Tw
/-! ### parts_of_offices -/
namespace Tw
open PySem PySem.Spec PyProof.Rows L2 Tm
abbrev sParts : Stmt := top 17
def spParts (K : PySem.W.Frag) : Sp := fun vs H Q _ => ∃ N : Nat, vs = [.int ((N : Nat) : Int)] ∧ N ≤ 5 ∧
  ∀ (H' : Hp) (p : Addr) (as : List Addr), Same H H' → H p = none → H' p = some (.lst (as.map V.ref)) → Ats H' oT as ((subs N).drop 1) → Q (.ref p) H'
abbrev nParts : List Str := ["n", "parts", "office", "part"]
theorem scParts : FnScope nParts ["n"] (defScope sParts) := ⟨rfl, rfl, rfl, by decide +kernel, rfl, by decide +kernel, by decide +kernel⟩
theorem cut_one (xs : List V) (h : 1 ≤ xs.length) : cutV xs (some 1) none = xs.drop 1 := by
  have e : HT.sIx xs.length 0 (some (((1 : Nat) : Int))) = 1 := by
    rw [HT.sIx_nat]
    exact Nat.min_eq_left h
  show (xs.drop (HT.sIx xs.length 0 (some (((1 : Nat) : Int))))).take (xs.length - HT.sIx xs.length 0 (some (((1 : Nat) : Int)))) = _
  rw [e]
  exact List.take_of_length_le (by rw [List.length_drop]; exact Nat.le_refl _)
theorem subs_small {k : Nat} (h : k ≤ 5) : (subs k).length ≤ 32 := by
  rw [subs_length]
  exact Nat.pow_le_pow_right (by decide) h
section
variable {P : Program} {w : World} {K : PySem.W.Frag} {mg : Str → Option Value} {base : Heap}
theorem ok_parts {f : Addr} {fd : FuncData} (F : Fun K "parts_of_offices" "parts_of_offices" sParts f fd) (range : mg "range" = none) : FnOk P w K mg base CX0 1 f fd ["n"] (spParts K) := by
  refine F.ok scParts (fun vs H Q E h => ?_) (fun cdv A outer s H vs Q E hr h => ?_)
  · obtain ⟨N, rfl, _⟩ := h
    rfl
  obtain ⟨N, rfl, n5, q⟩ := h
  refine ⟨_, pss_cons (ps_set (i := 1) scParts.nd rfl (Or.inl rfl) (pe_lst (pa_cons (pe_tup pa_nil) pa_nil)))
    (pss_cons (ps_for PassesOwn.never rfl (pi_range1 rfl range (pa_cons (pv 0) pa_nil)) (pg_name (i := 2) scParts.nd rfl (Or.inr rfl))
      (pss_one (ps_set (i := 1) scParts.nd rfl (Or.inl rfl) (pe_op op_cat (pv 1)
        (pe_lc (own := [("part", 3)]) (g := gName 3) (tt := tYes) rfl scParts.nd (pi_list (pv 1)) (blkOk_by (own := [("part", 3)]) (N := nParts) (sc := defScope sParts) (by decide +kernel))
          (fun _ _ _ _ _ => pg_name (i := 3) scParts.nd rfl (Or.inl rfl)) (fun _ _ _ _ _ => pts_nil) (fun _ _ _ _ _ => pe_op (show OpR _ (binaryOp .Add) (rCatA K) from op_catA) (pv 3) (pe_tup (pa_cons (pv 2) pa_nil))))))))
    (pss_one (ps_ret (pe_slice sl_list (pv 1) (po_some pe_int) po_none)))), ?_⟩
  refine ⟨(by show 0 ≤ sizeLine; decide), fun t ht => ⟨(by show 1 ≤ sizeLine; decide), fun p hp => ?_⟩⟩
  have g1 : Same H (upd H t (.tup [])) := same_new ht _
  have g2 := g1.trans (same_new hp (.lst [.ref t]))
  have hp0 : H p = none := g1.free hp
  have et : (upd (upd H t (.tup [])) p (.lst [.ref t])) t = some (oT []) := by
    rw [upd_ne (ne_of_none upd_same hp)]
    exact upd_same
  refine ⟨_, rfl, _, rfl, by omega, by omega, for_range (lo := 0) (n := ((N : Nat) : Int).toNat) (fun k σ H' => ∃ (v2 v3 : Option V) (r : Addr) (as : List Addr), σ = [some (.int ((N : Nat) : Int)), some (.ref r), v2, v3] ∧ Same H H' ∧ H r = none ∧
      H' r = some (.lst (as.map V.ref)) ∧ Ats H' oT as (subs k))
    ⟨none, none, p, [t], rfl, g2, hp0, upd_same, .cons et .nil⟩ ?_ ?_⟩
  · rintro k σ H' hk ⟨v2, v3, r, as, rfl, g, r0, er, ats⟩
    have hkN : k < N := by omega
    have ek : (0 : Int) + ((k : Nat) : Int) = ((k : Nat) : Int) := Int.zero_add _
    have ls := subs_small (k := k) (by omega)
    have la := ats.length
    rw [ek]
    refine ⟨_, rfl, _, rfl, r, rfl, ⟨_, SqL.of er⟩, fun D hD => lc_list (K := K) (a := r) (xs := as.map V.ref) (fun j H2 => Same H' H2 ∧ ∃ bs : List Addr, H2 D = some (.lst (bs.map V.ref)) ∧ Ats H2 oT bs (((subs k).take j).map (· ++ [k])) )
      ⟨same_new hD _, [], upd_same, .nil⟩ (fun j H2 _ ⟨g', _⟩ => g'.seq (SqL.of er)) ?_ ?_⟩
    · rintro j y H2 hj ⟨g', bs, eD, bts⟩
      obtain ⟨t', ht', rfl⟩ := get_ref hj
      obtain ⟨G, hG, eG⟩ := ats.get ht'
      have lb := bts.length
      have lj : j < (subs k).length := (List.getElem?_eq_some_iff.mp hG).1
      have lG := subs_len hG
      have e1 : ((subs k).take (j + 1)).map (· ++ [k]) = ((subs k).take j).map (· ++ [k]) ++ [G ++ [k]] := by
        rw [List.take_add_one, hG, List.map_append]
        rfl
      have lz : bs.length < sizeLine := by
        rw [lb, List.length_map, List.length_take]
        exact smallL (by omega)
      refine ⟨rfl, _, rfl, _, rfl, (by show 1 ≤ sizeLine; decide), fun u hu => ?_⟩
      have g3 : Same H2 (upd H2 u (.tup [V.int ((k : Nat) : Int)])) := same_new hu _
      have eu : (upd H2 u (.tup [V.int ((k : Nat) : Int)])) u = some (oT [k]) := upd_same
      have eG3 := g3 _ _ (g' _ _ eG)
      have neD : u ≠ D := ne_of_none' eD hu
      refine ⟨t', u, _, _, rfl, rfl, SqT.of eG3, SqT.of upd_same, ?_, fun z => ?_, fun _ z => ?_, fun _ _ v hv => ?_⟩
      · rw [len_zi]
        exact small (by show G.length + 1 ≤ 1000; omega)
      · have zG : G = [] := by
          cases G with
          | nil => rfl
          | cons x l => cases z
        subst zG
        refine ⟨_, g3 _ _ eD, (by rw [List.length_map]; exact lz), same_mut (g'.trans g3) hD, bs ++ [u], ?_, ?_⟩
        · rw [upd_same, app_ref]
        · rw [e1]
          exact (bts.mut g3 eD).append (.cons (by rw [upd_ne neD]; exact eu) .nil)
      · cases z
      · have g4 := g3.trans (same_new hv (.tup ((zi G).map V.int ++ [V.int ((k : Nat) : Int)])))
        have neD' : v ≠ D := ne_of_none' (g3 _ _ eD) hv
        refine ⟨_, g4 _ _ eD, (by rw [List.length_map]; exact lz), same_mut (g'.trans g4) hD, bs ++ [v], ?_, ?_⟩
        · rw [upd_same, app_ref]
        · rw [e1]
          refine (bts.mut g4 eD).append (.cons ?_ .nil)
          rw [upd_ne neD', upd_same, app_zi]
          rfl
    · rintro H2 ⟨g', bs, eD, bts⟩
      have lb := bts.length
      rw [List.length_map, la, List.take_length] at bts
      rw [List.length_map, List.length_take, List.length_map] at lb
      refine ⟨r, D, _, _, rfl, rfl, g' _ _ er, eD, ?_, fun z hz => ?_⟩
      · rw [List.length_map, List.length_map]
        exact small (by omega)
      · have g5 := g'.trans (same_new hz (.lst (as.map V.ref ++ bs.map V.ref)))
        refine ⟨_, _, z, as ++ bs, rfl, g.trans g5, (g.trans g').free hz, ?_, ?_⟩
        · rw [upd_same, List.map_append]
        · exact (ats.same g5).append (bts.same (same_new hz _))
  · rintro σ H' ⟨v2, v3, r, as, rfl, g, r0, er, ats⟩
    have eN : ((N : Nat) : Int).toNat = N := Int.toNat_natCast N
    rw [eN] at ats
    have la := ats.length
    have lp := subs_pos N
    refine ⟨_, rfl, _, rfl, r, _, rfl, SqL.of er, fun z hz => ?_⟩
    rw [cut_one _ (by rw [List.length_map, la]; exact lp), ← List.map_drop]
    exact q _ z (as.drop 1) (g.trans (same_new hz _)) (g.free hz) upd_same (ats.same (same_new hz _)).drop1
theorem has_parts (D : Def K mg "parts_of_offices" sParts ["n"]) (range : mg "range" = none) : Has P w K mg base 1 "parts_of_offices" ["n"] (spParts K) := by
  obtain ⟨f, fd, F, m, b⟩ := D
  exact ⟨f, fd, ok_parts F range, m, F.kp, b⟩
end
end Tw
/-! ### range(n) -/
namespace Tw
open PySem PySem.Spec PyProof.Rows L2 Tm
theorem rg_zi (N : Nat) : rgV 0 ((N : Nat) : Int) = (zi (List.range N)).map V.int := by
  unfold rgV zi
  rw [List.map_map]
  have e : ((N : Nat) : Int) - 0 = (N : Int) := Int.sub_zero _
  rw [e, Int.toNat_natCast]
  refine List.map_congr_left fun i _ => ?_
  show V.int ((0 : Int) + (i : Int)) = V.int (i : Int)
  rw [Int.zero_add]
end Tw
/-! ### taken_plainly -/
namespace Tw
open PySem PySem.Spec PyProof.Rows L2 Tm
abbrev sTaken : Stmt := top 13
def spTaken (K : PySem.W.Frag) : Sp := fun vs H Q _ => ∃ (a b : Addr) (n : Int) (s w : List Int) (N : Nat) (S W P : List Nat), vs = [.int ((N : Nat) : Int), .ref a, .ref b] ∧ Ok n s w N S W ∧ P.length ≤ N ∧ (∀ x ∈ P, x < S.length) ∧ SqL K H a ((zi P).map V.int) ∧ SqL K H b ((zi W).map V.int) ∧
  ∀ (H' : Hp) (p : Addr), Same H H' → H p = none → H' p = some (.lst ((zi ((Ks466.plain (house n s w) P (List.range N)).map Prod.snd)).map V.int)) → Q (.ref p) H'
theorem scTaken : FnScope ["n", "parties", "worth", "free", "taken", "party", "office"] ["n", "parties", "worth"] (defScope sTaken) := ⟨rfl, rfl, rfl, by decide +kernel, rfl, by decide +kernel, by decide +kernel⟩
section
variable {P : Program} {w : World} {K : PySem.W.Frag} {mg : Str → Option Value} {base : Heap}
theorem ok_taken {f : Addr} {fd : FuncData} (F : Fun K "taken_plainly" "taken_plainly" sTaken f fd) (range : mg "range" = none) (list : mg "list" = none) (M : Has P w K mg base 1 "worth_most" ["free", "own_worth"] (spMost K)) (O : Has P w K mg base 1 "worths_of" ["n", "party", "worth"] (spOwn K)) : FnOk P w K mg base CX0 2 f fd ["n", "parties", "worth"] (spTaken K) := by
  obtain ⟨fW, dW, G, mW, kW, bW⟩ := M
  obtain ⟨fO, dO, GO, mO, kO, bO⟩ := O
  refine F.ok scTaken (fun vs H Q E h => ?_) (fun cdv A outer s H vs Q E hr h => ?_)
  · obtain ⟨a, b, n, s, w, N, S, W, l, rfl, _⟩ := h
    rfl
  obtain ⟨a, b, n, s, w, N, S, W, l, rfl, o, hl, hlt, hA, hB, q⟩ := h
  refine ⟨_, pss_cons (ps_set (i := 3) scTaken.nd rfl (Or.inl rfl) (pe_listRg rfl rfl list (prg_1 rfl range (pv 0))))
    (pss_cons (ps_set (i := 4) scTaken.nd rfl (Or.inl rfl) (pe_lst pa_nil))
    (pss_cons (ps_for PassesOwn.never rfl (pi_list (pv 1)) (pg_name (i := 5) scTaken.nd rfl (Or.inl rfl))
      (pss_cons (ps_set (i := 6) scTaken.nd rfl (Or.inl rfl) (pe_call G hr rfl mW kW bW .nil pass0 (pa_cons (pv 3) (pa_cons (pe_call GO hr rfl mO kO bO .nil pass0 (pa_cons (pv 0) (pa_cons (pv 5) (pa_cons (pv 2) pa_nil)))) pa_nil))))
      (pss_cons (ps_expr (pe_bm PySem.F.plainAttrs_list PySem.F.slot_list_append PySem.F.type_list_append mt_append (pv 4) (pa_cons (pv 6) pa_nil)))
      (pss_one (ps_expr (pe_bm PySem.F.plainAttrs_list PySem.F.slot_list_remove PySem.F.type_list_remove mt_remove (pv 3) (pa_cons (pv 6) pa_nil)))))))
    (pss_one (ps_ret (pv 4))))), ?_⟩
  have n5 := o.n5
  refine ⟨_, rfl, _, rfl, RgOk.of_le (Int.le_refl 0) (by omega) (by decide) (by omega), fun fr hfr => ?_⟩
  rw [rg_zi]
  have g1 : Same H (upd H fr (.lst ((zi (List.range N)).map V.int))) := same_new hfr _
  refine ⟨(by show 0 ≤ sizeLine; decide), fun tk htk => ?_⟩
  have g2 := g1.trans (same_new htk (.lst []))
  have tk0 : H tk = none := g1.free htk
  have ne : fr ≠ tk := fun e => by
    rw [← e, upd_same] at htk
    cases htk
  refine ⟨_, rfl, a, rfl, ⟨_, g2.seq hA⟩, for_list (K := K) (a := a) (xs := (zi l).map V.int) (fun i σ H' => ∃ (v5 v6 : Option V) (done free : List Nat), σ = [some (.int ((N : Nat) : Int)), some (.ref a), some (.ref b), some (.ref fr), some (.ref tk), v5, v6] ∧ Same H H' ∧
      Took (house n s w) l N i done free ∧ H' fr = some (.lst ((zi free).map V.int)) ∧ H' tk = some (.lst ((zi done).map V.int)))
    ⟨none, none, [], List.range N, rfl, g2, took_zero _ _ _, ?_, upd_same⟩ (fun i σ H' _ ⟨_, _, _, _, _, g, _⟩ => g.seq hA) ?_ ?_⟩
  · rw [upd_ne ne]
    exact upd_same
  · rintro i y σ H' hi ⟨v5, v6, done, free, rfl, g, t, efr, etk⟩
    obtain ⟨p, hp, rfl⟩ := get_zi hi
    have hpS : p < S.length := hlt p (List.mem_of_getElem? hp)
    have hiN : i < N := Nat.lt_of_lt_of_le (List.getElem?_eq_some_iff.mp hp).1 hl
    have rl : ((house n s w).worth.getD p []).length = N := row_len o hpS
    have hF := took_free t hiN
    refine ⟨_, rfl, _, rfl, _, rfl, _, rfl, b, n, s, w, N, S, W, p, rfl, o, hpS, g.seq hB, fun H3 r gr hr' er => ?_⟩
    have g3 := g.trans gr
    have efr3 := gr _ _ efr
    have etk3 := gr _ _ etk
    refine ⟨fr, r, house n s w, p, free, rfl, hF, fun x hx => by rw [rl]; exact t.lt x hx, .inl (SqL.of efr3), SqL.of er, ?_⟩
    refine ⟨_, rfl, .inl ⟨rfl, _, SqL.of etk3⟩, _, rfl, tk, _, _, rfl, rfl, etk3, (by rw [len_zi, t.dl]; exact smallL (by omega)), ?_⟩
    have m := top1_mem (h := house n s w) (i := p) hF free.length
    obtain ⟨j, hj⟩ := List.getElem?_of_mem m
    have efr4 : (upd H3 tk (.lst ((zi done).map V.int ++ [V.int ((top1 (house n s w) p free free.length : Nat) : Int)]))) fr = some (.lst ((zi free).map V.int)) := by
      rw [upd_ne ne]
      exact efr3
    refine ⟨_, rfl, .inl ⟨rfl, _, SqL.of efr4⟩, _, rfl, fr, zi free, _, j, rfl, rfl, efr4, zi_get hj, fun k hk => zi_nodup t.nd hj hk, ?_⟩
    refine ⟨_, _, done ++ [top1 (house n s w) p free free.length], free.filter fun x => x != top1 (house n s w) p free free.length, rfl, same_mut (same_mut g3 tk0) hfr, took_more t hp hiN, ?_, ?_⟩
    · rw [upd_same, zi_erase, erase_filter t.nd hj]
    · rw [upd_ne (Ne.symm ne), upd_same, app_zi]
  · rintro σ H' ⟨v5, v6, done, free, rfl, g, t, efr, etk⟩
    rw [len_zi] at t
    rw [took_end t (Nat.le_refl _)] at etk
    exact ⟨_, rfl, q H' tk g tk0 etk⟩
theorem has_taken (D : Def K mg "taken_plainly" sTaken ["n", "parties", "worth"]) (range : mg "range" = none) (list : mg "list" = none) (M : Has P w K mg base 1 "worth_most" ["free", "own_worth"] (spMost K)) (O : Has P w K mg base 1 "worths_of" ["n", "party", "worth"] (spOwn K)) : Has P w K mg base 2 "taken_plainly" ["n", "parties", "worth"] (spTaken K) := by
  obtain ⟨f, fd, F, m, b⟩ := D
  exact ⟨f, fd, ok_taken F range list M O, m, F.kp, b⟩
end
end Tw
/-! ### taken_ahead -/
namespace Tw
open PySem PySem.Spec PyProof.Rows L2 Tm
abbrev sAhead : Stmt := top 16
def spAhead (K : PySem.W.Frag) : Sp := fun vs H Q _ => ∃ (a b c : Addr) (n : Int) (s w : List Int) (N : Nat) (S W P L : List Nat), vs = [.int ((N : Nat) : Int), .ref a, .ref b, .ref c] ∧ Ok n s w N S W ∧ P.length = N ∧ (∀ x ∈ P, x < S.length) ∧ SqL K H a ((zi P).map V.int) ∧ SqL K H b ((zi W).map V.int) ∧ SqL K H c ((zi L).map V.int) ∧
  ∀ (H' : Hp) (p : Addr), Same H H' → H' p = some (oC (go (house n s w) L P (List.range N))) → Q (.ref p) H'
abbrev nAhead : List Str := ["n", "parties", "worth", "lookers", "follows", "free", "left", "weighed", "courses", "office"]
theorem scAhead : FnScope nAhead ["n", "parties", "worth", "lookers"] (defScope sAhead) := ⟨rfl, rfl, rfl, by decide +kernel, rfl, by decide +kernel, by decide +kernel⟩
/-- what the dict holds behind i parts: for each of them what follows from it -/
structure Foll (h : Ks466.House) (L P : List Nat) (N i : Nat) (H : Hp) (d : Addr) : Prop where
  ex : ∃ kvs : List (List Key × V), H d = some (.dT kvs) ∧ kvs.length ≤ i + 1 ∧ ∀ (j : Nat) (F : List Nat), j ≤ i → (subs N)[j]? = some F → ∃ q, valV kvs (keyOf F) = some (.ref q) ∧ H q = some (oC (go h L (P.drop (N - F.length)) F))
theorem Foll.same {h : Ks466.House} {L P : List Nat} {N i : Nat} {H H' : Hp} {d : Addr} (f : Foll h L P N i H d) (e : Same H H') : Foll h L P N i H' d := by
  obtain ⟨kvs, h1, h2, h3⟩ := f
  refine ⟨kvs, e _ _ h1, h2, fun j F hj hF => ?_⟩
  obtain ⟨q, a, b⟩ := h3 j F hj hF
  exact ⟨q, a, e _ _ b⟩
/-- one part more -/
theorem Foll.put {h : Ks466.House} {L P : List Nat} {N i : Nat} {H H' : Hp} {d q : Addr} {F : List Nat} {kvs : List (List Key × V)} (f : Foll h L P N i H d) (hd : H d = some (.dT kvs)) (hF : (subs N)[i + 1]? = some F) (hq : H q = some (oC (go h L (P.drop (N - F.length)) F)))
    (e : H' = upd H d (.dT (putK kvs (keyOf F) (.ref q)))) : Foll h L P N (i + 1) H' d := by
  obtain ⟨kvs', h1, h2, h3⟩ := f
  rw [hd] at h1
  injection h1 with h1
  injection h1 with h1
  subst h1 e
  have lp := length_putK kvs (keyOf F) (.ref q)
  have ne : ∀ {q' : Addr} {l : List (Nat × Nat)}, H q' = some (oC l) → q' ≠ d := fun z => ne_of z hd (fun u => nomatch u)
  refine ⟨_, upd_same, by omega, fun j G hj hG => ?_⟩
  by_cases c : keyOf G = keyOf F
  · have c' := key_inj c
    subst c'
    refine ⟨q, ?_, ?_⟩
    · rw [valV_put, if_pos rfl]
    · rw [upd_ne (ne hq)]
      exact hq
  · have hj' : j ≤ i := by
      rcases Nat.lt_or_ge i j with z | z
      · have z' : j = i + 1 := by omega
        rw [z', hF] at hG
        exact absurd (congrArg keyOf (Option.some.inj hG).symm) c
      · exact z
    obtain ⟨r, a, b⟩ := h3 j G hj' hG
    refine ⟨r, ?_, ?_⟩
    · rw [valV_put, if_neg c]
      exact a
    · rw [upd_ne (ne b)]
      exact b
theorem cut_from (xs : List V) (k : Nat) (h : k ≤ xs.length) : cutV xs (some ((k : Nat) : Int)) none = xs.drop k := by
  have e : HT.sIx xs.length 0 (some ((k : Nat) : Int)) = k := by
    rw [HT.sIx_nat]
    exact Nat.min_eq_left h
  show (xs.drop (HT.sIx xs.length 0 (some ((k : Nat) : Int)))).take (xs.length - HT.sIx xs.length 0 (some ((k : Nat) : Int))) = _
  rw [e]
  exact List.take_of_length_le (by rw [List.length_drop]; exact Nat.le_refl _)
theorem zi_drop (l : List Nat) (k : Nat) : ((zi l).map V.int).drop k = (zi (l.drop k)).map V.int := by
  unfold zi
  rw [← List.map_drop, ← List.map_drop]
section
variable {P : Program} {w : World} {K : PySem.W.Frag} {mg : Str → Option Value} {base : Heap}
theorem ok_ahead {f : Addr} {fd : FuncData} (F : Fun K "taken_ahead" "taken_ahead" sAhead f fd) (len : mg "len" = none) (range : mg "range" = none) (list : mg "list" = none) (tuple : mg "tuple" = none)
    (PT : Has P w K mg base 1 "parts_of_offices" ["n"] (spParts K)) (M : Has P w K mg base 1 "worth_most" ["free", "own_worth"] (spMost K)) (O : Has P w K mg base 1 "worths_of" ["n", "party", "worth"] (spOwn K))
    (WO : Has P w K mg base 1 "without" ["offices", "office"] (spWithout K)) (BC : Has P w K mg base 2 "best_course" ["n", "parties", "courses", "worth"] (spBest K)) : FnOk P w K mg base CX0 3 f fd ["n", "parties", "worth", "lookers"] (spAhead K) := by
  obtain ⟨fP, dP, GP, mP, kP, bP⟩ := PT
  obtain ⟨fM, dM, GM, mM, kM, bM⟩ := M
  obtain ⟨fO, dO, GO, mO, kO, bO⟩ := O
  obtain ⟨fW, dW, GW, mW, kW, bW⟩ := WO
  obtain ⟨fB, dB, GB, mB, kB, bB⟩ := BC
  refine F.ok scAhead (fun vs H Q E h => ?_) (fun cdv A outer s H vs Q E hr h => ?_)
  · obtain ⟨a, b, c, n, s, w, N, S, W, l, L, rfl, _⟩ := h
    rfl
  obtain ⟨a, b, c, n, s, w, N, S, W, l, L, rfl, o, hl, hlt, hA, hB, hC, q⟩ := h
  have hr1 := hr.mono (j := 1) (by decide)
  refine ⟨_, pss_cons (ps_set (i := 4) scAhead.nd rfl (Or.inr rfl) (pe_disp1T (hu_of hr) (pe_tup pa_nil) (pe_lst pa_nil)))
    (pss_cons (ps_for PassesOwn.never rfl (pi_list (pe_call GP hr1 rfl mP kP bP .nil pass0 (pa_cons (pv 0) pa_nil))) (pg_name (i := 5) scAhead.nd rfl (Or.inr rfl))
      (pss_cons (ps_set (i := 6) scAhead.nd rfl (Or.inl rfl) (pe_slice sl_list (pv 1) (po_some (pe_op op_sub (pv 0) (pe_callB call_len_seq rfl len PySem.boot_len (pa_cons (pv 5) pa_nil)))) po_none))
      (pss_cons (ps_set (i := 7) scAhead.nd rfl (Or.inl rfl) (pe_callTy call_list_of rfl list (by decide +kernel) (pa_cons (pv 5) pa_nil)))
      (Evl.pss_cut (ps_if (pt_cmpR op_notIn_seq (pe_ix ix_list (pv 6) pe_int (fun _ _ => rfl)) (pv 3) rfl)
        (pss_one (ps_set (i := 7) scAhead.nd rfl (Or.inl rfl) (pe_lst (pa_cons (pe_call GM hr1 rfl mM kM bM .nil pass0 (pa_cons (pv 5) (pa_cons (pe_call GO hr1 rfl mO kO bO .nil pass0 (pa_cons (pv 0) (pa_cons (pe_ix ix_list (pv 6) pe_int (fun _ _ => rfl)) (pa_cons (pv 2) pa_nil)))) pa_nil))) pa_nil)))) pss_nil)
      (pss_cons (ps_setLc (i := 8) (own := [("office", 9)]) (g := gName 9) (tt := tYes) rfl scAhead.nd rfl rfl (sw_true rfl rfl rfl (by decide +kernel)) (pi_list (pv 7)) (blkOk_by (own := [("office", 9)]) (N := nAhead) (sc := defScope sAhead) (by decide +kernel))
        (fun _ _ _ _ _ => pg_name (i := 9) scAhead.nd rfl (Or.inl rfl)) (fun _ _ _ _ _ => pts_nil)
        (fun _ _ _ _ _ => pe_op op_cat (pe_lst (pa_cons (pv 9) pa_nil)) (pe_dget (hu_of hr) (pv 4) (pe_call GW hr1 rfl mW kW bW .nil pass0 (pa_cons (pv 5) (pa_cons (pv 9) pa_nil))) (fun _ _ => rfl))))
      (pss_one (ps_dput (hu_of hr) (pv 4) (pv 5) (pe_call GB hr rfl mB kB bB .nil pass0 (pa_cons (pv 0) (pa_cons (pv 6) (pa_cons (pv 8) (pa_cons (pv 2) pa_nil))))) rfl)))))))
    (pss_one (ps_ret (pe_dget (hu_of hr) (pv 4) (pe_tupRg rfl rfl tuple (prg_1 rfl range (pv 0))) (fun _ _ => rfl))))), ?_⟩
  have n5 := o.n5
  have p4 := o.p4
  refine fun d hd => ⟨(by show 0 ≤ sizeLine; decide), fun t ht => ⟨(by show 0 ≤ sizeLine; decide), fun e he => ?_⟩⟩
  have d0 : (upd H d (.dT [])) d = some (.dT []) := upd_same
  have hd1 : (upd (upd H d (.dT [])) t (.tup [])) d = some (.dT []) := by
    rw [upd_ne (ne_of_none d0 ht)]
    exact d0
  have hd2 : (upd (upd (upd H d (.dT [])) t (.tup [])) e (.lst [])) d = some (.dT []) := by
    rw [upd_ne (ne_of_none hd1 he)]
    exact hd1
  have ht2 : (upd (upd (upd H d (.dT [])) t (.tup [])) e (.lst [])) t = some (.tup (([] : List Key).map kV)) := by
    rw [upd_ne (ne_of_none upd_same he)]
    exact upd_same
  refine ⟨hd2, [], t, rfl, ht2, ?_⟩
  have ge : Same H (upd (upd (upd H d (.dT [])) t (.tup [])) e (.lst [])) := ((same_new hd _).trans (same_new ht _)).trans (same_new he _)
  have g0 : Same H (upd (upd (upd (upd H d (.dT [])) t (.tup [])) e (.lst [])) d (.dT [([], .ref e)])) := same_mut ge hd
  have f0 : Foll (house n s w) L l N 0 (upd (upd (upd (upd H d (.dT [])) t (.tup [])) e (.lst [])) d (.dT [([], .ref e)])) d := by
    refine ⟨_, upd_same, Nat.le_refl 1, fun j F hj hF => ?_⟩
    have j0 : j = 0 := by omega
    rw [j0, subs_first] at hF
    have eF : [] = F := Option.some.inj hF
    subst eF
    refine ⟨e, rfl, ?_⟩
    rw [upd_ne (ne_of_none' hd1 he), upd_same]
    show some (HO.lst []) = some (oC (go (house n s w) L (l.drop N) []))
    rw [List.drop_eq_nil_of_le (by omega)]
    rfl
  refine ⟨_, rfl, N, rfl, n5, fun H1 p as g1 hp ep ats => ?_⟩
  have gp : Same H H1 := g0.trans g1
  refine ⟨p, rfl, ⟨_, SqL.of ep⟩, for_list (K := K) (a := p) (xs := as.map V.ref) (fun i σ H' => ∃ (v5 v6 v7 v8 v9 : Option V), σ = [some (.int ((N : Nat) : Int)), some (.ref a), some (.ref b), some (.ref c), some (.ref d), v5, v6, v7, v8, v9] ∧ Same H H' ∧
      Ats H' oT as ((subs N).drop 1) ∧ H' p = some (.lst (as.map V.ref)) ∧ Foll (house n s w) L l N i H' d)
    ⟨none, none, none, none, none, rfl, gp, ats, ep, f0.same g1⟩ (fun i σ H' _ ⟨_, _, _, _, _, _, _, _, h, _⟩ => SqL.of h) ?_ ?_⟩
  · rintro i y σ H' hi ⟨v5, v6, v7, v8, v9, rfl, g, ats, ep, fo⟩
    obtain ⟨u, hu, rfl⟩ := get_ref hi
    obtain ⟨F, hF', eu⟩ := ats.get hu
    have hF : (subs N)[i + 1]? = some F := by
      rw [List.getElem?_drop, Nat.add_comm] at hF'
      exact hF'
    have hne : F ≠ [] := fun z => by
      rw [z] at hF
      exact absurd (subs_nil hF) (Nat.succ_ne_zero i)
    have hFN := subs_len hF
    have hFl := subs_lt hF
    have hFn := subs_nodup hF
    have l1 : 0 < F.length := List.length_pos_iff.mpr hne
    -- the parties that are left
    have ld : (l.drop (N - F.length)).length = F.length := by
      rw [List.length_drop, hl]
      omega
    obtain ⟨z, r, er⟩ : ∃ z r, l.drop (N - F.length) = z :: r := by
      cases e : l.drop (N - F.length) with
      | nil =>
        rw [e] at ld
        exact absurd ld.symm (Nat.ne_of_gt l1)
      | cons z r => exact ⟨z, r, rfl⟩
    have lr : r.length + 1 = F.length := by
      rw [er] at ld
      exact ld
    have hzS : z < S.length := hlt z (List.mem_of_mem_drop (i := N - F.length) (by rw [er]; exact List.mem_cons_self))
    have er' : l.drop (N - (F.length - 1)) = r := by
      have e1 : N - (F.length - 1) = N - F.length + 1 := by omega
      rw [e1, ← List.drop_drop, er]
      rfl
    have lrF : (z :: r).length ≤ F.length := by
      rw [← er, ld]
      exact Nat.le_refl _
    have es : ((N : Nat) : Int) - ((((zi F).map V.int).length : Nat) : Int) = ((N - F.length : Nat) : Int) := by
      rw [len_zi]
      omega
    refine ⟨_, rfl, _, rfl, _, rfl, u, _, rfl, .inr (SqT.of eu), _, _, rfl, rfl, _, rfl, a, _, rfl, g.seq hA, fun lf hlf => ?_⟩
    rw [es, cut_from _ _ (by rw [len_zi, hl]; omega), zi_drop, er]
    have g2 : Same H' (upd H' lf (.lst ((zi (z :: r)).map V.int))) := same_new hlf _
    refine ⟨_, rfl, u, _, rfl, .inr (SqT.of (g2 _ _ eu)), fun wl hwl => ?_⟩
    have g3 := g2.trans (same_new hwl (.lst ((zi F).map V.int)))
    have elf : (upd (upd H' lf (.lst ((zi (z :: r)).map V.int))) wl (.lst ((zi F).map V.int))) lf = some (oL (z :: r)) := by
      rw [upd_ne (ne_of_none upd_same hwl)]
      exact upd_same
    have z0 : atI ((zi (z :: r)).map V.int) 0 = some (V.int ((z : Nat) : Int)) := at_zi (i := 0) rfl
    refine ⟨fun σ' H2 => ∃ (we : Addr), σ' = [some (.int ((N : Nat) : Int)), some (.ref a), some (.ref b), some (.ref c), some (.ref d), some (.ref u), some (.ref lf), some (.ref we), v8, v9] ∧ Same H' H2 ∧ H2 lf = some (oL (z :: r)) ∧
        H2 we = some (oL (if z ∈ L then F else [top1 (house n s w) z F F.length])), ?_, ?_⟩
    · refine ⟨_, rfl, lf, _, _, _, rfl, rfl, SqL.of elf, z0, _, rfl, c, _, rfl, .inl ((g.trans g3).seq hC), rfl, flat_zi L, _, rfl, ?_⟩
      show if (!inV (V.int ((z : Nat) : Int)) ((zi L).map V.int)) = true then _ else _
      rw [in_zi]
      by_cases hz : z ∈ L
      · rw [decide_eq_true hz]
        refine iteF ⟨wl, rfl, g3, elf, ?_⟩
        rw [if_pos hz]
        exact upd_same
      · rw [decide_eq_false hz]
        refine iteT ⟨_, rfl, _, rfl, _, rfl, lf, _, _, _, rfl, rfl, SqL.of elf, z0, _, rfl, b, n, s, w, N, S, W, z, rfl, o, hzS, (g.trans g3).seq hB, fun H3 rr gr hrr err => ?_⟩
        have rl : ((house n s w).worth.getD z []).length = N := row_len o hzS
        refine ⟨u, rr, house n s w, z, F, rfl, hne, fun x hx => by rw [rl]; exact hFl x hx, .inr (gr _ _ (g3 _ _ eu)), SqL.of err, ?_⟩
        refine ⟨(by show 1 ≤ sizeLine; decide), fun nw hnw => ?_⟩
        refine ⟨nw, rfl, (g3.trans gr).trans (same_new hnw _), ?_, ?_⟩
        · exact ((gr.trans (same_new hnw _)) _ _ elf)
        · rw [if_neg hz]
          exact upd_same
    · rintro σ' H2 ⟨we, rfl, g4, elf2, ewe⟩
      have hWd : ∀ x ∈ (if z ∈ L then F else [top1 (house n s w) z F F.length]), x ∈ F := by
        intro x hx
        split at hx
        · exact hx
        · rw [List.mem_singleton.mp hx]
          exact top1_mem hne _
      have lWd : (if z ∈ L then F else [top1 (house n s w) z F F.length]).length ≤ F.length := by
        split
        · exact Nat.le_refl _
        · exact l1
      have nWd : (if z ∈ L then F else [top1 (house n s w) z F F.length]) ≠ [] := by
        split
        · exact hne
        · exact List.cons_ne_nil _ _
      have eg := go_cons (h := house n s w) (L := L) (i := z) (r := r) hne
      generalize (if z ∈ L then F else [top1 (house n s w) z F F.length]) = Wd at ewe hWd lWd nWd eg
      refine ⟨_, rfl, we, rfl, ⟨_, SqL.of ewe⟩, fun D hD => lc_list (K := K) (a := we) (xs := (zi Wd).map V.int) (fun j H3 => Same H2 H3 ∧ ∃ bs : List Addr, D ∉ bs ∧ H3 D = some (.lst (bs.map V.ref)) ∧ Ats H3 oC bs ((Wd.take j).map (cand (go (house n s w) L r) z F)))
        ⟨same_new hD _, [], List.not_mem_nil, upd_same, .nil⟩ (fun j H3 _ ⟨g', _⟩ => g'.seq (SqL.of ewe)) ?_ ?_⟩
      · rintro j y H3 hj ⟨g', bs, nD, eD, bts⟩
        obtain ⟨x, hx, rfl⟩ := get_zi hj
        have hxF := hWd x (List.mem_of_getElem? hx)
        have lb := bts.length
        have lj : j < Wd.length := (List.getElem?_eq_some_iff.mp hx).1
        have lz : bs.length < sizeLine := by
          rw [lb, List.length_map, List.length_take]
          exact smallL (by omega)
        have g5 := g4.trans g'
        refine ⟨rfl, _, rfl, (by show 1 ≤ sizeLine; decide), fun ox hox => ?_⟩
        have g6 := g5.trans (same_new hox (.lst [V.int ((x : Nat) : Int)]))
        refine ⟨_, rfl, _, rfl, _, rfl, u, F, x, rfl, by omega, g6 _ _ eu, fun H4 k g7 hk ek => ?_⟩
        obtain ⟨m, hm, em⟩ := subs_less hF hxF
        obtain ⟨kvs, e1, _, e3⟩ := (fo.same (g6.trans g7)).ex
        obtain ⟨fq, v1, v2⟩ := e3 m _ (by omega) em
        have fl := filter_less hFn hxF
        have ef : l.drop (N - (F.filter fun y => y != x).length) = r := by
          have e4 : (F.filter fun y => y != x).length = F.length - 1 := by omega
          rw [e4]
          exact er'
        rw [ef] at v2
        have hk' : H4 k = some (.tup ((keyOf (F.filter fun y => y != x)).map kV)) := by
          rw [key_map]
          exact ek
        refine ⟨d, .ref fq, rfl, ?_, ?_⟩
        · have dg := DGet.t e1 hk'
          rw [v1] at dg
          exact dg
        · have eox : H4 ox = some (.lst [V.int ((x : Nat) : Int)]) := g7 _ _ upd_same
          have tl := (tk_go (house n s w) L (P := r) (F := F.filter fun y => y != x) (nodup_filter hFn) (by omega)).length
          refine ⟨ox, fq, _, _, rfl, rfl, eox, v2, ?_, fun nw hnw => ?_⟩
          · rw [len_zi, List.length_map, tl]
            exact small (by show 1 + _ ≤ 1000; omega)
          · have g8 : Same H3 H4 := (same_new hox (.lst [V.int ((x : Nat) : Int)])).trans g7
            have g9 := g8.trans (same_new hnw (.lst ([V.int ((x : Nat) : Int)] ++ (zi ((go (house n s w) L r (F.filter fun y => y != x)).map Prod.snd)).map V.int)))
            have nwD : nw ≠ D := ne_of_none' (g8 _ _ eD) hnw
            refine ⟨_, g9 _ _ eD, (by rw [List.length_map]; exact lz), same_mut (g'.trans g9) hD, bs ++ [nw], ?_, ?_, ?_⟩
            · intro z
              rcases List.mem_append.mp z with z | z
              · exact nD z
              · exact nwD (List.mem_singleton.mp z).symm
            · rw [upd_same, app_ref]
            · rw [List.take_add_one, hx, List.map_append]
              refine (bts.but g9 nD).append (.cons ?_ .nil)
              rw [upd_ne nwD, upd_same]
              rfl
      · rintro H3 ⟨g', bs, nD, eD, bts⟩
        rw [len_zi, List.take_length] at bts
        have g5 := g4.trans g'
        have gH3 := g.trans g5
        refine ⟨_, rfl, _, rfl, _, rfl, _, rfl, lf, D, b, n, s, w, N, S, W, z, r, Wd.map (cand (go (house n s w) L r) z F), bs, rfl, o, hzS, ?_, ?_, SqL.of (g' _ _ elf2), SqL.of eD, bts, gH3.seq hB, fun H4 q' g6 eq' => ?_⟩
        · intro z
          exact nWd (List.map_eq_nil_iff.mp z)
        · intro k hk
          obtain ⟨x, hx, rfl⟩ := List.mem_map.mp hk
          have hxF := hWd x hx
          have tk : Tk (z :: r) F (cand (go (house n s w) L r) z F x) := .cons hxF (tk_go (house n s w) L (nodup_filter hFn) (len_filter hFn lrF hxF))
          exact ⟨tk.fst, fun y hy => hFl _ (tk.mem y hy)⟩
        · rw [← eg, ← er] at eq'
          have g7 := g5.trans g6
          obtain ⟨kvs, e1, e2, e3⟩ := (fo.same g7).ex
          have eu4 : H4 u = some (.tup ((keyOf F).map kV)) := by
            rw [key_map]
            exact g7 _ _ eu
          have ls := subs_small n5
          have li : i + 1 < (subs N).length := (List.getElem?_eq_some_iff.mp hF).1
          refine ⟨_, rfl, _, rfl, d, _, rfl, DPut.t e1 eu4 (smallL (by omega)), ?_⟩
          have hd0 : H d = none := hd
          refine ⟨_, _, _, _, _, rfl, same_mut (g.trans g7) hd0, ?_, ?_, (fo.same g7).put e1 hF eq' rfl⟩
          · exact (ats.same g7).but (Same.refl _) ((ats.same g7).nin e1 fun x z => by cases z)
          · rw [upd_ne (ne_of (g7 _ _ ep) e1 (fun z => nomatch z))]
            exact g7 _ _ ep
  · rintro σ H' ⟨v5, v6, v7, v8, v9, rfl, g, ats, ep, fo⟩
    have la := ats.length
    rw [List.length_drop] at la
    have lp := subs_pos N
    refine ⟨_, rfl, _, rfl, _, rfl, RgOk.of_le (Int.le_refl 0) (by omega) (by decide) (by omega), fun k hk => ?_⟩
    rw [rg_zi]
    have gk : Same H' (upd H' k (.tup ((zi (List.range N)).map V.int))) := same_new hk _
    obtain ⟨kvs, e1, e2, e3⟩ := (fo.same gk).ex
    obtain ⟨fq, v1, v2⟩ := e3 ((subs N).length - 1) (List.range N) (by rw [List.length_map]; omega) (subs_last N)
    have ek : (upd H' k (.tup ((zi (List.range N)).map V.int))) k = some (.tup ((keyOf (List.range N)).map kV)) := by
      rw [key_map]
      exact upd_same
    have dg := DGet.t e1 ek
    rw [v1] at dg
    refine ⟨d, .ref fq, rfl, dg, q _ fq (g.trans gk) ?_⟩
    have e0 : N - (List.range N).length = 0 := by rw [List.length_range]; omega
    rw [e0, List.drop_zero] at v2
    exact v2
theorem has_ahead (D : Def K mg "taken_ahead" sAhead ["n", "parties", "worth", "lookers"]) (len : mg "len" = none) (range : mg "range" = none) (list : mg "list" = none) (tuple : mg "tuple" = none)
    (PT : Has P w K mg base 1 "parts_of_offices" ["n"] (spParts K)) (M : Has P w K mg base 1 "worth_most" ["free", "own_worth"] (spMost K)) (O : Has P w K mg base 1 "worths_of" ["n", "party", "worth"] (spOwn K))
    (WO : Has P w K mg base 1 "without" ["offices", "office"] (spWithout K)) (BC : Has P w K mg base 2 "best_course" ["n", "parties", "courses", "worth"] (spBest K)) : Has P w K mg base 3 "taken_ahead" ["n", "parties", "worth", "lookers"] (spAhead K) := by
  obtain ⟨f, fd, F, m, b⟩ := D
  exact ⟨f, fd, ok_ahead F len range list tuple PT M O WO BC, m, F.kp, b⟩
end
end Tw
/-! ### taken_by_all -/
namespace Tw
open PySem PySem.Spec PyProof.Rows L2 Tm
abbrev sAll : Stmt := top 12
def spAll (K : PySem.W.Frag) : Sp := fun vs H Q _ => ∃ (a b : Addr) (n : Int) (s w : List Int) (N : Nat) (S W P : List Nat) (k : Nat), vs = [.int ((N : Nat) : Int), .int ((k : Nat) : Int), .ref a, .ref b] ∧ Ok n s w N S W ∧ P.length = N ∧ (∀ x ∈ P, x < S.length) ∧ SqL K H a ((zi P).map V.int) ∧ SqL K H b ((zi W).map V.int) ∧
  ∀ (H' : Hp) (p : Addr), Same H H' → H' p = some (oC (byAll (house n s w) k P (List.range N))) → Q (.ref p) H'
theorem scAll : FnScope ["n", "k", "parties", "worth"] ["n", "k", "parties", "worth"] (defScope sAll) := ⟨rfl, rfl, rfl, by decide +kernel, rfl, by decide +kernel, by decide +kernel⟩
section
variable {P : Program} {w : World} {K : PySem.W.Frag} {mg : Str → Option Value} {base : Heap}
theorem ok_all {f : Addr} {fd : FuncData} (F : Fun K "taken_by_all" "taken_by_all" sAll f fd) (ah : ∃ u, mg "AHEAD" = some u ∧ RelV (.int 1) u) (PW : Has P w K mg base 2 "taken_plainly" ["n", "parties", "worth"] (spTaken K))
    (MW : Has P w K mg base 3 "taken_ahead" ["n", "parties", "worth", "lookers"] (spAhead K)) : FnOk P w K mg base CX0 4 f fd ["n", "k", "parties", "worth"] (spAll K) := by
  obtain ⟨fM, dM, GM, mM, kM, bM⟩ := MW
  obtain ⟨fP, dP, GP, mP, kP, bP⟩ := PW
  obtain ⟨u, ga, ra⟩ := ah
  refine F.ok scAll (fun vs H Q E h => ?_) (fun cdv A outer s H vs Q E hr h => ?_)
  · obtain ⟨a, b, n, s, w, N, S, W, l, k, rfl, _⟩ := h
    rfl
  obtain ⟨a, b, n, s, w, N, S, W, l, k, rfl, o, hl, hlt, hA, hB, q⟩ := h
  have hr2 := hr.mono (j := 2) (by decide)
  refine ⟨_, pss_cons (ps_if (pt_cmpR op_eq (pv 1) (pe_glob rfl ga ra) (nomark _))
      (pss_one (ps_ret (pe_call GM hr rfl mM kM bM .nil pass0 (pa_cons (pv 0) (pa_cons (pv 2) (pa_cons (pv 3) (pa_cons (pv 2) pa_nil))))))) pss_nil)
    (pss_one (ps_ret (pe_call GP hr2 rfl mP kP bP .nil pass0 (pa_cons (pv 0) (pa_cons (pv 2) (pa_cons (pv 3) pa_nil)))))), ?_⟩
  have hlr : l.length ≤ (List.range N).length := by rw [hl, List.length_range]; exact Nat.le_refl _
  refine ⟨_, rfl, rfl, _, rfl, ?_⟩
  refine ite2 (fun e => ?_) (fun e => ?_)
  · have e' : k = 1 := by
      have z := of_decide_eq_true e
      injection z with z
      omega
    refine ⟨_, rfl, _, rfl, _, rfl, _, rfl, a, b, a, n, s, w, N, S, W, l, l, rfl, o, hl, hlt, hA, hB, hA, fun H1 p g1 e1 => ?_⟩
    refine q H1 p g1 ?_
    unfold byAll
    rw [if_pos e', ← go_ahead (house n s w) l (P := l) (F := List.range N) (fun i hi => hi) List.nodup_range hlr]
    exact e1
  · have e' : ¬ k = 1 := fun z => by
      rw [z] at e
      exact e (decide_eq_true rfl)
    refine ⟨_, rfl, _, rfl, _, rfl, a, b, n, s, w, N, S, W, l, rfl, o, Nat.le_of_eq hl, hlt, hA, hB, fun H1 p g1 hp e1 => ?_⟩
    refine q H1 p g1 ?_
    unfold byAll
    rw [if_neg e']
    exact e1
theorem has_all (D : Def K mg "taken_by_all" sAll ["n", "k", "parties", "worth"]) (ah : ∃ u, mg "AHEAD" = some u ∧ RelV (.int 1) u) (PW : Has P w K mg base 2 "taken_plainly" ["n", "parties", "worth"] (spTaken K))
    (MW : Has P w K mg base 3 "taken_ahead" ["n", "parties", "worth", "lookers"] (spAhead K)) : Has P w K mg base 4 "taken_by_all" ["n", "k", "parties", "worth"] (spAll K) := by
  obtain ⟨f, fd, F, m, b⟩ := D
  exact ⟨f, fd, ok_all F ah PW MW, m, F.kp, b⟩
end
end Tw
/-! ### would_rather -/
namespace Tw
open PySem PySem.Spec PyProof.Rows L2 Tm
abbrev sRather : Stmt := top 23
def spRather (K : PySem.W.Frag) : Sp := fun vs H Q _ => ∃ (c : Addr) (n : Int) (s w : List Int) (N : Nat) (S W : List Nat) (i x y : Nat), vs = [.int ((N : Nat) : Int), .int ((i : Nat) : Int), .int ((x : Nat) : Int), .int ((y : Nat) : Int), .ref c] ∧ Ok n s w N S W ∧ i < S.length ∧ x < N ∧ y < N ∧
  SqL K H c ((zi W).map V.int) ∧ Q (.bl (decide (Ks466.worth (house n s w) i y < Ks466.worth (house n s w) i x))) H
theorem scRather : FnScope ["n", "party", "other", "own", "worth"] ["n", "party", "other", "own", "worth"] (defScope sRather) := ⟨rfl, rfl, rfl, by decide +kernel, rfl, by decide +kernel, by decide +kernel⟩
theorem at_worth {n : Int} {s w : List Int} {N : Nat} {S W : List Nat} (o : Ok n s w N S W) {i x : Nat} (hi : i < S.length) (hx : x < N) : atI ((zi W).map V.int) (((i : Nat) : Int) * ((N : Nat) : Int) + ((x : Nat) : Int)) = some (V.int ((Ks466.worth (house n s w) i x : Nat) : Int)) := by
  have em : ((i : Nat) : Int) * ((N : Nat) : Int) + ((x : Nat) : Int) = ((i * N + x : Nat) : Int) := by
    rw [Int.natCast_add, Int.natCast_mul]
  rw [em]
  exact at_zi (worth_flat o hi hx)
section
variable {P : Program} {w : World} {K : PySem.W.Frag} {mg : Str → Option Value} {base : Heap}
theorem ok_rather {f : Addr} {fd : FuncData} (F : Fun K "would_rather" "would_rather" sRather f fd) : FnOk P w K mg base CX0 1 f fd ["n", "party", "other", "own", "worth"] (spRather K) := by
  refine F.ok scRather (fun vs H Q E h => ?_) (fun cdv A outer s H vs Q E hr h => ?_)
  · obtain ⟨c, n, s, w, N, S, W, i, x, y, rfl, _⟩ := h
    rfl
  obtain ⟨c, n, s, w, N, S, W, i, x, y, rfl, o, hi, hx, hy, hC, q⟩ := h
  refine ⟨_, pss_one (ps_ret (pe_cmpR op_gt (pe_ix ix_list (pv 4) (pe_op op_add (pe_op op_mul (pv 1) (pv 0)) (pv 2)) (fun _ _ => rfl)) (pe_ix ix_list (pv 4) (pe_op op_add (pe_op op_mul (pv 1) (pv 0)) (pv 3)) (fun _ _ => rfl)) (nomark _))), ?_⟩
  have p4 := o.p4
  refine ⟨_, rfl, _, rfl, _, rfl, _, _, rfl, rfl, .inl ⟨by omega, by omega⟩, _, rfl, _, _, rfl, rfl, c, _, _, _, rfl, rfl, hC, at_worth o hi hx, ?_⟩
  refine ⟨_, rfl, _, rfl, _, rfl, _, _, rfl, rfl, .inl ⟨by omega, by omega⟩, _, rfl, _, _, rfl, rfl, c, _, _, _, rfl, rfl, hC, at_worth o hi hy, ?_⟩
  refine ⟨_, _, rfl, rfl, ?_⟩
  have e : decide (((Ks466.worth (house n s w) i x : Nat) : Int) > ((Ks466.worth (house n s w) i y : Nat) : Int)) = decide (Ks466.worth (house n s w) i y < Ks466.worth (house n s w) i x) := by
    rw [decide_eq_decide]
    exact Int.ofNat_lt
  rw [← e] at q
  exact q
theorem has_rather (D : Def K mg "would_rather" sRather ["n", "party", "other", "own", "worth"]) : Has P w K mg base 1 "would_rather" ["n", "party", "other", "own", "worth"] (spRather K) := by
  obtain ⟨f, fd, F, m, b⟩ := D
  exact ⟨f, fd, ok_rather F, m, F.kp, b⟩
end
end Tw
/-! ### holders_of -/
namespace Tw
open PySem PySem.Spec PyProof.Rows L2 Tm
abbrev sHold : Stmt := top 21
def spHold (K : PySem.W.Frag) : Sp := fun vs H Q _ => ∃ (a b : Addr) (l : List (Nat × Nat)), vs = [.ref a, .ref b] ∧ l.length ≤ 100 ∧ (∀ x ∈ l, x.2 < l.length) ∧ SqL K H a ((zi (l.map Prod.fst)).map V.int) ∧ SqL K H b ((zi (l.map Prod.snd)).map V.int) ∧
  ∀ (H' : Hp) (p : Addr), Same H H' → H p = none → H' p = some (oL (hold l.length l)) → Q (.ref p) H'
theorem scHold : FnScope ["parties", "offices", "holders", "party", "office"] ["parties", "offices"] (defScope sHold) := ⟨rfl, rfl, rfl, by decide +kernel, rfl, by decide +kernel, by decide +kernel⟩
theorem rep_none (m : Nat) : (List.replicate m [V.int 0]).flatten = (zi (hold m [])).map V.int := by
  show _ = (zi (List.replicate m 0)).map V.int
  unfold zi
  rw [List.map_replicate, List.map_replicate]
  induction m with
  | zero => rfl
  | succ m ih =>
    rw [List.replicate_succ, List.flatten_cons, ih, List.replicate_succ]
    rfl
section
variable {P : Program} {w : World} {K : PySem.W.Frag} {mg : Str → Option Value} {base : Heap}
theorem ok_hold {f : Addr} {fd : FuncData} (F : Fun K "holders_of" "holders_of" sHold f fd) (len : mg "len" = none) (zip : mg "zip" = none) : FnOk P w K mg base CX0 1 f fd ["parties", "offices"] (spHold K) := by
  refine F.ok scHold (fun vs H Q E h => ?_) (fun cdv A outer s H vs Q E hr h => ?_)
  · obtain ⟨a, b, l, rfl, _⟩ := h
    rfl
  obtain ⟨a, b, l, rfl, hl, hlt, hA, hB, q⟩ := h
  refine ⟨_, pss_cons (ps_set (i := 2) scHold.nd rfl (Or.inl rfl) (pe_op op_rep (pe_lst (pa_cons pe_int pa_nil)) (pe_callB call_len_seq rfl len PySem.boot_len (pa_cons (pv 1) pa_nil))))
    (pss_cons (ps_for PassesOwn.never rfl (pi_zip (by rfl) zip (pa_cons (pv 0) (pa_cons (pv 1) pa_nil))) (pg_tup rfl (pgs_cons (pg_name (i := 3) scHold.nd rfl (Or.inl rfl)) (pgs_cons (pg_name (i := 4) scHold.nd rfl (Or.inl rfl)) pgs_nil)))
      (pss_one (ps_asg (pv 3) (pg_sub (pv 2) (pv 4) set_list))))
    (pss_one (ps_ret (pv 2)))), ?_⟩
  have ls : ((((zi (l.map Prod.snd)).map V.int).length : Nat) : Int) = (l.length : Int) := by rw [len_zi, List.length_map]
  have ln : ((((zi (l.map Prod.snd)).map V.int).length : Nat) : Int).toNat = l.length := by rw [ls]; omega
  refine ⟨(by show 1 ≤ sizeLine; decide), fun z hz => ?_⟩
  have g0 : Same H (upd H z (.lst [.int 0])) := same_new hz _
  refine ⟨_, rfl, b, _, rfl, .inl (g0.seq hB), z, _, _, rfl, rfl, upd_same, (by rw [ls]; omega), (by rw [ls]; omega), (by rw [ln]; exact small (by show 1 * l.length ≤ 1000; omega)), fun c hc => ?_⟩
  rw [ln, rep_none]
  have g1 : Same H (upd (upd H z (.lst [.int 0])) c (.lst ((zi (hold l.length [])).map V.int))) := g0.trans (same_new hc _)
  have hc0 : H c = none := g0.free hc
  refine ⟨_, rfl, _, rfl, a, b, _, _, rfl, g1.seq hA, g1.seq hB, RZ.for_zipL (K := K) (a := a) (b := b) (xs := (zi (l.map Prod.fst)).map V.int) (ys := (zi (l.map Prod.snd)).map V.int) (by rw [len_zi, len_zi, List.length_map, List.length_map])
    (fun k σ H' => ∃ v3 v4 : Option V, σ = [some (.ref a), some (.ref b), some (.ref c), v3, v4] ∧ Same H H' ∧ H' c = some (oL (hold l.length (l.take k))))
    ⟨none, none, rfl, g1, upd_same⟩ (fun k σ H' ⟨_, _, _, g, _⟩ => ⟨g.seq hA, g.seq hB⟩) ?_ ?_⟩
  · rintro k x y T σ H' hx hy ⟨v3, v4, rfl, g, ec⟩ hT
    obtain ⟨p, hp, rfl⟩ := get_zi hx
    obtain ⟨z, hz', rfl⟩ := get_zi hy
    have ez : l[k]? = some (p, z) := by
      rw [List.getElem?_map] at hp hz'
      cases e : l[k]? with
      | none =>
        rw [e] at hp
        cases hp
      | some v =>
        rw [e] at hp hz'
        have e1 : v.1 = p := Option.some.inj hp
        have e2 : v.2 = z := Option.some.inj hz'
        rw [← e1, ← e2]
    have et : l.take (k + 1) = l.take k ++ [(p, z)] := by
      rw [List.take_add_one, ez]
      rfl
    have zl : z < l.length := hlt (p, z) (List.mem_of_getElem? ez)
    have g2 : Same H' (upd H' T (.tup [V.int ((p : Nat) : Int), V.int ((z : Nat) : Int)])) := same_new hT _
    have ec2 := g2 _ _ ec
    refine ⟨T, _, rfl, SqT.of upd_same, rfl, _, _, rfl, _, _, rfl, rfl, ?_⟩
    refine ⟨_, rfl, _, rfl, _, rfl, c, _, _, _, rfl, rfl, ec2, Evl.ixN_nat (by rw [len_zi, hold_length]; exact zl), ?_⟩
    refine ⟨_, _, rfl, same_mut (g.trans g2) hc0, ?_⟩
    rw [upd_same, et, hold_snoc]
    unfold oL
    rw [← set_zi]
  · rintro σ H' ⟨v3, v4, rfl, g, ec⟩
    have e : l.take ((zi (l.map Prod.fst)).map V.int).length = l := by
      rw [len_zi, List.length_map]
      exact List.take_length
    rw [e] at ec
    exact ⟨_, rfl, q H' c g hc0 ec⟩
theorem has_hold (D : Def K mg "holders_of" sHold ["parties", "offices"]) (len : mg "len" = none) (zip : mg "zip" = none) : Has P w K mg base 1 "holders_of" ["parties", "offices"] (spHold K) := by
  obtain ⟨f, fd, F, m, b⟩ := D
  exact ⟨f, fd, ok_hold F len zip, m, F.kp, b⟩
end
end Tw
/-! ### pairs_to_swap -/
namespace Tw
open PySem PySem.Spec PyProof.Rows L2 Tm
abbrev sPairs : Stmt := top 22
def oP (x : Nat × Nat) : HO := oT [x.1, x.2]
def spPairs (K : PySem.W.Frag) : Sp := fun vs H Q _ => ∃ (a b : Addr) (n : Int) (s w : List Int) (N : Nat) (S W : List Nat) (l : List (Nat × Nat)), vs = [.int ((N : Nat) : Int), .ref a, .ref b] ∧ Ok n s w N S W ∧ (∀ o, o < N → own N l o < S.length) ∧ SqL K H a ((zi (hold N l)).map V.int) ∧ SqL K H b ((zi W).map V.int) ∧
  ∀ (H' : Hp) (p : Addr) (as : List Addr), Same H H' → H p = none → H' p = some (.lst (as.map V.ref)) → Ats H' oP as (pairsTo (house n s w) (own N l) N N) → Q (.ref p) H'
theorem scPairs : FnScope ["n", "holders", "worth", "pairs", "lesser", "greater"] ["n", "holders", "worth"] (defScope sPairs) := ⟨rfl, rfl, rfl, by decide +kernel, rfl, by decide +kernel, by decide +kernel⟩
theorem Ats.mutP {H H' : Hp} {D : Addr} {o : HO} {ys : List V} {as : List Addr} {xs : List (Nat × Nat)} (t : Ats H oP as xs) (e : Same H H') (hD : H D = some (.lst ys)) : Ats (upd H' D o) oP as xs := t.but e (t.nin hD fun x z => by cases z)
section
variable {P : Program} {w : World} {K : PySem.W.Frag} {mg : Str → Option Value} {base : Heap}
theorem ok_pairs {f : Addr} {fd : FuncData} (F : Fun K "pairs_to_swap" "pairs_to_swap" sPairs f fd) (range : mg "range" = none) (RW : Has P w K mg base 1 "would_rather" ["n", "party", "other", "own", "worth"] (spRather K)) : FnOk P w K mg base CX0 2 f fd ["n", "holders", "worth"] (spPairs K) := by
  obtain ⟨fR, dR, GR, mR, kR, bR⟩ := RW
  refine F.ok scPairs (fun vs H Q E h => ?_) (fun cdv A outer s H vs Q E hr h => ?_)
  · obtain ⟨a, b, n, s, w, N, S, W, l, rfl, _⟩ := h
    rfl
  obtain ⟨a, b, n, s, w, N, S, W, l, rfl, o, hown, hA, hB, q⟩ := h
  refine ⟨_, pss_cons (ps_set (i := 3) scPairs.nd rfl (Or.inl rfl) (pe_lst pa_nil))
    (pss_cons (ps_for PassesOwn.never rfl (pi_range1 rfl range (pa_cons (pv 0) pa_nil)) (pg_name (i := 4) scPairs.nd rfl (Or.inl rfl))
      (pss_one (ps_for PassesOwn.never rfl (pi_range2 (by rfl) range (pa_cons (pe_op op_add (pv 4) pe_int) (pa_cons (pv 0) pa_nil))) (pg_name (i := 5) scPairs.nd rfl (Or.inl rfl))
        (pss_one (ps_if (PW.pt (pw_and
            (pt_val (pe_call GR hr rfl mR kR bR .nil pass0 (pa_cons (pv 0) (pa_cons (pe_ix ix_list (pv 1) (pv 4) (fun _ _ => rfl)) (pa_cons (pv 5) (pa_cons (pv 4) (pa_cons (pv 2) pa_nil)))))))
            (pw_and1 (pt_val (pe_call GR hr rfl mR kR bR .nil pass0 (pa_cons (pv 0) (pa_cons (pe_ix ix_list (pv 1) (pv 5) (fun _ _ => rfl)) (pa_cons (pv 4) (pa_cons (pv 5) (pa_cons (pv 2) pa_nil))))))))))
          (pss_one (ps_expr (pe_bm PySem.F.plainAttrs_list PySem.F.slot_list_append PySem.F.type_list_append mt_append (pv 3) (pa_cons (pe_tup (pa_cons (pv 4) (pa_cons (pv 5) pa_nil))) pa_nil)))) pss_nil)))))
    (pss_one (ps_ret (pv 3)))), ?_⟩
  have n5 := o.n5
  refine ⟨(by show 0 ≤ sizeLine; decide), fun p hp => ?_⟩
  have g0 := same_new hp (.lst [])
  refine ⟨_, rfl, _, rfl, by omega, by omega, for_range (lo := 0) (n := ((N : Nat) : Int).toNat) (fun i σ H' => ∃ (v4 v5 : Option V) (as : List Addr), σ = [some (.int ((N : Nat) : Int)), some (.ref a), some (.ref b), some (.ref p), v4, v5] ∧ Same H H' ∧
      H' p = some (.lst (as.map V.ref)) ∧ Ats H' oP as (pairsTo (house n s w) (own N l) N i))
    ⟨none, none, [], rfl, g0, upd_same, .nil⟩ ?_ ?_⟩
  · rintro i σ H' hi ⟨v4, v5, as, rfl, g, ep, ats⟩
    have hiN : i < N := by omega
    have ei : (0 : Int) + ((i : Nat) : Int) = ((i : Nat) : Int) := Int.zero_add _
    rw [ei]
    refine ⟨_, rfl, _, _, rfl, rfl, _, rfl, ((i : Nat) : Int) + 1, ((N : Nat) : Int), rfl, ⟨by omega, by omega, by omega, by omega⟩, for_range (lo := ((i : Nat) : Int) + 1) (n := (((N : Nat) : Int) - (((i : Nat) : Int) + 1)).toNat) (fun j σ H' => ∃ (v5 : Option V) (as : List Addr), σ = [some (.int ((N : Nat) : Int)), some (.ref a), some (.ref b), some (.ref p), some (.int ((i : Nat) : Int)), v5] ∧ Same H H' ∧
        H' p = some (.lst (as.map V.ref)) ∧ Ats H' oP as (pairsTo (house n s w) (own N l) N i ++ rowTo (house n s w) (own N l) i (i + 1 + j)))
      ⟨v5, as, rfl, g, ep, ?_⟩ ?_ ?_⟩
    · rw [Nat.add_zero, rowTo_first, List.append_nil]
      exact ats
    · rintro j σ H1 hj ⟨v5', as', rfl, g1, ep1, ats1⟩
      have hjN : i + 1 + j < N := by omega
      have ej : ((i : Nat) : Int) + 1 + ((j : Nat) : Int) = ((i + 1 + j : Nat) : Int) := by omega
      rw [ej]
      have lp := pairsTo_length (house n s w) (own N l) N i
      have lr := rowTo_length (house n s w) (own N l) i (i + 1 + j)
      have la := ats1.length
      rw [List.length_append] at la
      have lm : i * N ≤ 4 * 5 := Nat.mul_le_mul (by omega) n5
      have lz : as'.length < sizeLine := smallL (by omega)
      have ea : i + 1 + (j + 1) = i + 1 + j + 1 := rfl
      rw [ea]
      have hik : i < i + 1 + j := by omega
      generalize i + 1 + j = k at hjN hik ats1 lr la ⊢
      refine ⟨_, rfl, _, rfl, _, rfl, a, _, _, _, rfl, rfl, g1.seq hA, at_zi (own_get hiN), _, rfl, _, rfl, _, rfl, b, n, s, w, N, S, W, own N l i, k, i, rfl, o, hown i hiN, hjN, hiN, g1.seq hB, _, rfl, ?_⟩
      refine ite2 (fun e => ?_) (fun e => ?_)
      · refine ⟨_, rfl, _, rfl, _, rfl, a, _, _, _, rfl, rfl, g1.seq hA, at_zi (own_get hjN), _, rfl, _, rfl, _, rfl, b, n, s, w, N, S, W, own N l k, i, k, rfl, o, hown k hjN, hiN, hjN, g1.seq hB, _, rfl, ?_⟩
        refine ite2 (fun e2 => ?_) (fun e2 => ?_)
        · have r : rather (house n s w) (own N l) i k = true := by
            unfold rather
            rw [e, e2]
            rfl
          refine ⟨_, rfl, .inl ⟨rfl, _, SqL.of ep1⟩, _, rfl, _, rfl, (by show 2 ≤ sizeLine; decide), fun t ht => ?_⟩
          have g2 := same_new ht (.tup [V.int ((i : Nat) : Int), V.int ((k : Nat) : Int)])
          have ep2 := g2 _ _ ep1
          refine ⟨p, _, _, rfl, rfl, ep2, (by rw [List.length_map]; exact lz), ?_⟩
          refine ⟨_, as' ++ [t], rfl, same_mut (g1.trans g2) hp, ?_, ?_⟩
          · rw [upd_same, app_ref]
          · rw [rowTo_yes hik r, ← List.append_assoc]
            refine (ats1.mutP g2 ep1).append (.cons ?_ .nil)
            rw [upd_ne (ne_of_none' ep1 ht), upd_same]
            rfl
        · have r : rather (house n s w) (own N l) i k = false := by
            unfold rather
            rw [Bool.eq_false_iff.mpr e2, Bool.and_false]
          refine ⟨_, as', rfl, g1, ep1, ?_⟩
          rw [rowTo_no r]
          exact ats1
      · have r : rather (house n s w) (own N l) i k = false := by
          unfold rather
          rw [Bool.eq_false_iff.mpr e, Bool.false_and]
        refine iteF ⟨_, as', rfl, g1, ep1, ?_⟩
        rw [rowTo_no r]
        exact ats1
    · rintro σ H1 ⟨v5', as', rfl, g1, ep1, ats1⟩
      refine ⟨_, _, as', rfl, g1, ep1, ?_⟩
      have e1 : i + 1 + (((N : Nat) : Int) - (((i : Nat) : Int) + 1)).toNat = N := by omega
      rw [e1] at ats1
      rw [pairsTo_succ]
      exact ats1
  · rintro σ H' ⟨v4, v5, as, rfl, g, ep, ats⟩
    have eN : ((N : Nat) : Int).toNat = N := Int.toNat_natCast N
    rw [eN] at ats
    exact ⟨_, rfl, q H' p as g hp ep ats⟩
theorem has_pairs (D : Def K mg "pairs_to_swap" sPairs ["n", "holders", "worth"]) (range : mg "range" = none) (RW : Has P w K mg base 1 "would_rather" ["n", "party", "other", "own", "worth"] (spRather K)) : Has P w K mg base 2 "pairs_to_swap" ["n", "holders", "worth"] (spPairs K) := by
  obtain ⟨f, fd, F, m, b⟩ := D
  exact ⟨f, fd, ok_pairs F range RW, m, F.kp, b⟩
end
end Tw
/-! ### xs.extend(t), t a tuple -/
namespace Tw
open PySem PySem.Spec PyProof.Rows L2 Tm
/-- the model's own step: whatever else the tuple's object holds -/
theorem ext_step (l b : Addr) (xs zs : Array Value) (n m : Nat) (od : Option Addr) (os : Array (Option Value))
    (door : ¬(!xs.isEmpty && Builtin.List.listTooLong (xs.size + zs.size)) = true) (fits : xs.size ≤ sizeLine) (both : xs.size + zs.size ≤ sizeLine + 1) :
    Meets (Builtin.«list.extend» ⟨[.ref l, .ref b], []⟩) (fun _ R s =>
      s.heap.get? l = some { cls := .type "list", dict := none, data := .seq xs n, slots := #[] } ∧
      s.heap.get? b = some { cls := .type "tuple", dict := od, data := .seq zs m, slots := os } ∧
      R (.ok (.ret Value.none)) { s with heap := s.heap.update l (Obj.mapSeq fun x => x ++ zs), toks := s.toks }) := by
  refine .of_wp fun prog w A R s hyp => ?_
  obtain ⟨hp, gs, dr, tk, ost⟩ := s
  obtain ⟨at_l, at_b, done⟩ := hyp
  have s1 := AutoSeq1.sub_tuple_tuple
  have s2 := AutoSeq1.sub_list_list
  have s3 := AutoSeq1.sub_tuple_list
  have s4 := AutoSeq1.sub_list_tuple
  have grown : (xs ++ zs).size ≤ sizeLine + 1 := by
    rw [Array.size_append]
    exact both
  wp_walk using (wpAny_updateSeq at_l rfl (hz := fits) (_hz' := grown)), AutoSeq1.wpAny_loadPart' at_l, AutoSeq1.wpAny_loadPart' at_b
  exact ⟨_, rfl, done⟩
def rExtT (K : PySem.W.Frag) : V → List V → Hp → VK → Prop := fun x vs H Q => ∃ l b xs zs, x = .ref l ∧ vs = [.ref b] ∧ H l = some (.lst xs) ∧ SqT K H b zs ∧ xs.length + zs.length ≤ sizeLine ∧ Q .non (upd H l (.lst (xs ++ zs)))
theorem mt_extT {X : Cx} : MtM X "list.extend" (rExtT X.K) := by
  intro pins st σ H x vs v us Q I rx rv ask
  obtain ⟨l, b, xs, zs, rfl, rfl, hL, hB, fits, q⟩ := ask
  cases rx
  obtain ⟨u, rfl, ru⟩ := rv.one
  cases ru
  obtain ⟨_, its, n, vl, lenl, at_l⟩ := I.lstM hL
  obtain ⟨jts, vt, ⟨⟨oc, od, dt, os⟩, at_b, isT, m, isD⟩, _⟩ := I.tuple hB
  cases isT
  cases isD
  have lent := vt.length
  have both : its.toArray.size + jts.toArray.size ≤ sizeLine := by
    simp only [List.size_toArray]
    omega
  refine call_meets F.slot_list_extend ⟨_, at_l, rfl⟩ F.entry_list_extend (F.args_list_extend_2 _ _) (ext_step l b its.toArray jts.toArray n m od os (PyProof.Rows.extend_door both) (by omega) (by omega)) ⟨at_l, at_b, ?_⟩
  exact ⟨.non, _, I.lset (its' := its ++ jts) hL at_l (by simp) (vl.append vt) (by rw [List.length_append]; exact fits), rfl, q⟩
end Tw
/-! ### swaps -/
namespace Tw
open PySem PySem.Spec PyProof.Rows L2 Tm
abbrev sMain : Stmt := top 7
def spMain (K : PySem.W.Frag) : Sp := fun vs H Q _ => ∃ (a b : Addr) (n k : Int) (s w : List Int), vs = [.int n, .int k, .ref a, .ref b] ∧ 0 ≤ n ∧ 0 ≤ k ∧ (∀ x ∈ s, 0 ≤ x) ∧ (∀ x ∈ w, 0 ≤ x) ∧ SqL K H a (s.map V.int) ∧ SqL K H b (w.map V.int) ∧
  ∀ (H' : Hp) (p : Addr), H' p = some (.lst ((PyKs466.swaps n k s w).map V.int)) → Q (.ref p) H'
theorem scMain : FnScope ["n", "k", "seats", "worth", "parties", "pairs", "answer", "pair"] ["n", "k", "seats", "worth"] (defScope sMain) := ⟨rfl, rfl, rfl, by decide +kernel, rfl, by decide +kernel, by decide +kernel⟩
theorem fit_of {n : Int} {s w : List Int} {N : Nat} {S W : List Nat} (o : Ok n s w N S W) : Fit (house n s w) := by
  rw [o.eh]
  exact ⟨o.p1, o.p4, o.sb, o.n5⟩
section
variable {P : Program} {w : World} {K : PySem.W.Frag} {mg : Str → Option Value} {base : Heap}
theorem ok_main {f : Addr} {fd : FuncData} (F : Fun K "swaps" "swaps" sMain f fd) (no : ∃ u, mg "NOT_AS_TOLD" = some u ∧ RelV (.int (-22)) u) (ah : ∃ u, mg "AHEAD" = some u ∧ RelV (.int 1) u) (len : mg "len" = none) (TW : Has P w K mg base 2 "as_told" ["n", "seats", "worth"] (spTold K)) (CW : Has P w K mg base 2 "choosers" ["n", "seats"] (spChoosers K))
    (HW : Has P w K mg base 1 "holders_of" ["parties", "offices"] (spHold K)) (SW : Has P w K mg base 2 "pairs_to_swap" ["n", "holders", "worth"] (spPairs K))
    (AW : Has P w K mg base 4 "taken_by_all" ["n", "k", "parties", "worth"] (spAll K)) : FnOk P w K mg base CX0 5 f fd ["n", "k", "seats", "worth"] (spMain K) := by
  obtain ⟨fT, dT, GT, mT, kT, bT⟩ := TW
  obtain ⟨fC, dC, GC, mC, kC, bC⟩ := CW
  obtain ⟨fH, dH, GH, mH, kH, bH⟩ := HW
  obtain ⟨fS, dS, GS, mS, kS, bS⟩ := SW
  obtain ⟨fA, dA, GA, mA, kA, bA⟩ := AW
  obtain ⟨u, gn, rn⟩ := no
  obtain ⟨u2, ga, ra⟩ := ah
  refine F.ok scMain (fun vs H Q E h => ?_) (fun cdv A outer s H vs Q E hr h => ?_)
  · obtain ⟨a, b, n, k, s, w, rfl, _⟩ := h
    rfl
  obtain ⟨a, b, n, k, s, w, rfl, h0, hk0, hs, hw, hS, hW, q⟩ := h
  have hr2 := hr.mono (j := 2) (by decide)
  have hr1 := hr.mono (j := 1) (by decide)
  refine ⟨_, pss_cons (ps_if (PW.pt (pw_or (pt_cmpR op_gt (pv 1) (pe_glob rfl ga ra) (nomark _)) (pw_or1 (pt_not (pt_val (pe_call GT hr2 rfl mT kT bT .nil pass0 (pa_cons (pv 0) (pa_cons (pv 2) (pa_cons (pv 3) pa_nil))))))))) (pss_one (ps_ret (pe_lst (pa_cons (pe_glob rfl gn rn) pa_nil)))) pss_nil)
    (pss_cons (ps_set (i := 4) scMain.nd rfl (Or.inl rfl) (pe_call GC hr2 rfl mC kC bC .nil pass0 (pa_cons (pv 0) (pa_cons (pv 2) pa_nil))))
    (pss_cons (ps_set (i := 5) scMain.nd rfl (Or.inl rfl) (pe_call GS hr2 rfl mS kS bS .nil pass0 (pa_cons (pv 0) (pa_cons
      (pe_call GH hr1 rfl mH kH bH .nil pass0 (pa_cons (pv 4) (pa_cons (pe_call GA hr rfl mA kA bA .nil pass0 (pa_cons (pv 0) (pa_cons (pv 1) (pa_cons (pv 4) (pa_cons (pv 3) pa_nil))))) pa_nil))) (pa_cons (pv 3) pa_nil)))))
    (pss_cons (ps_set (i := 6) scMain.nd rfl (Or.inl rfl) (pe_lst (pa_cons (pe_callB call_len_seq rfl len PySem.boot_len (pa_cons (pv 5) pa_nil)) pa_nil)))
    (pss_cons (ps_for PassesOwn.never rfl (pi_list (pv 5)) (pg_name (i := 7) scMain.nd rfl (Or.inl rfl))
      (pss_one (ps_expr (pe_bm PySem.F.plainAttrs_list PySem.F.slot_list_extend PySem.F.type_list_extend mt_extT (pv 6) (pa_cons (pv 7) pa_nil)))))
    (pss_one (ps_ret (pv 6))))))), ?_⟩
  rw [swaps_is h0 hs hw] at q
  refine ⟨_, rfl, _, _, rfl, rfl, _, rfl, ?_⟩
  refine ite2 (fun c => iteT ?_) (fun c => ?_)
  · have c1 : 1 < k.toNat := by
      have c' := of_decide_eq_true c
      omega
    have e : PyKs466.swaps n k s w = [-22] := by
      rw [swaps_is h0 hs hw, if_pos c1]
      split
      · rfl
      · rfl
    rw [← swaps_is h0 hs hw, e] at q
    exact ⟨(by show 1 ≤ sizeLine; decide), fun p hp => q _ p upd_same⟩
  have c1 : ¬ 1 < k.toNat := by
    have c' := of_decide_eq_false (Bool.eq_false_iff.mpr c)
    omega
  refine ⟨_, rfl, _, rfl, _, rfl, a, b, n, s, w, rfl, h0, hS, hW, _, rfl, ?_⟩
  cases t : told n s w with
  | false =>
    refine iteT ⟨(by show 1 ≤ sizeLine; decide), fun p hp => ?_⟩
    rw [t, if_neg Bool.false_ne_true] at q
    exact q _ p upd_same
  | true =>
    rw [t, if_pos rfl, if_neg c1] at q
    obtain ⟨N, S, W, o⟩ := ok_of h0 hs hw t
    obtain ⟨k, rfl⟩ : ∃ k' : Nat, k = ((k' : Nat) : Int) := ⟨k.toNat, (Int.toNat_of_nonneg hk0).symm⟩
    rw [Int.toNat_natCast] at q c1
    have eN : (house n s w).offices = N := by rw [o.eh]
    have eS : (house n s w).seats = S := by rw [o.eh]
    have en : n = (((house n s w).offices : Nat) : Int) := by rw [eN]; exact o.en
    have n5 := o.n5
    have ol : (Ks466.order (house n s w)).length = N := by rw [order_length, eN]
    have olt : ∀ x ∈ Ks466.order (house n s w), x < S.length := by
      intro x hx
      rw [← eS]
      exact turns_lt (house n s w) (fit_of o).p1 _ x hx
    have tk := tk_all (house n s w) k (P := Ks466.order (house n s w)) (F := List.range N) List.nodup_range (by rw [ol, List.length_range]; exact Nat.le_refl _)
    have hWz : ∀ {H' : Hp}, Same H H' → SqL K H' b ((zi W).map V.int) := fun g => by
      rw [← o.ew]
      exact g.seq hW
    have so : Ks466.swaps (house n s w) (byAll (house n s w) k (Ks466.order (house n s w)) (List.range N)) = pairsTo (house n s w) (own N (byAll (house n s w) k (Ks466.order (house n s w)) (List.range N))) N N := by
      have z := swaps_own (h := house n s w) (P := Ks466.order (house n s w)) (l := byAll (house n s w) k (Ks466.order (house n s w)) (List.range N)) (by rw [eN]; exact tk) (by rw [eN]; exact ol)
      rw [eN] at z
      exact z
    rw [way_all (show k ≤ 1 by omega) eN, so] at q
    have tl := tk.length
    rw [ol] at tl
    have hown : ∀ o, o < N → own N (byAll (house n s w) k (Ks466.order (house n s w)) (List.range N)) o < S.length := fun o ho => own_lt tk ol olt ho
    have fstE := tk.fst
    have memE : ∀ x ∈ byAll (house n s w) k (Ks466.order (house n s w)) (List.range N), x.2 < N := fun x hx => List.mem_range.mp (tk.mem x hx)
    refine iteF ⟨_, rfl, _, rfl, a, house n s w, ?_, fit_of o, ?_, fun H1 p1 g1 hp1 e1 => ?_⟩
    · rw [← en]
      rfl
    · rw [eS, ← o.es]
      exact hS
    refine ⟨_, rfl, _, rfl, _, rfl, _, rfl, _, rfl, _, rfl, p1, b, n, s, w, N, S, W, Ks466.order (house n s w), k, ?_, o, ol, olt, SqL.of e1, hWz g1, fun H2 p2 g2 e2 => ?_⟩
    · rw [← o.en]
      rfl
    have g3 := g1.trans g2
    generalize byAll (house n s w) k (Ks466.order (house n s w)) (List.range N) = l at q tl hown fstE memE e2
    refine ⟨p1, p2, l, rfl, by omega, fun x hx => by rw [tl]; exact memE x hx, ?_, SqL.of e2, fun H3 p3 g4 hp3 e3 => ?_⟩
    · rw [fstE]
      exact SqL.of (g2 _ _ e1)
    rw [tl] at e3
    have g5 := g3.trans g4
    refine ⟨_, rfl, p3, b, n, s, w, N, S, W, l, ?_, o, hown, SqL.of e3, hWz g5, fun H4 p4 as g6 hp4 e4 ats => ?_⟩
    · rw [← o.en]
      rfl
    have lp := pairsTo_length (house n s w) (own N l) N N
    have lm : N * N ≤ 5 * 5 := Nat.mul_le_mul n5 n5
    generalize pairsTo (house n s w) (own N l) N N = ps at q ats lp
    have la := ats.length
    refine ⟨_, rfl, p4, _, rfl, .inl (SqL.of e4), (by show 1 ≤ sizeLine; decide), fun p hp => ?_⟩
    have g7 := same_new hp (.lst [V.int (((as.map V.ref).length : Nat) : Int)])
    refine ⟨_, rfl, p4, rfl, ⟨_, SqL.of (g7 _ _ e4)⟩, for_list (K := K) (a := p4) (xs := as.map V.ref) (fun j σ H' => ∃ v7 : Option V, σ = [some (.int n), some (.int ((k : Nat) : Int)), some (.ref a), some (.ref b), some (.ref p1), some (.ref p4), some (.ref p), v7] ∧ Same H4 H' ∧
        H' p = some (.lst (V.int ((ps.length : Nat) : Int) :: (zi ((ps.take j).flatMap two)).map V.int)))
      ⟨none, rfl, g7, ?_⟩ (fun j σ H' _ ⟨_, _, g, _⟩ => SqL.of (g _ _ e4)) ?_ ?_⟩
    · rw [upd_same, List.length_map, la]
      rfl
    · rintro j y σ H' hj ⟨v7, rfl, g, ep⟩
      obtain ⟨t', ht', rfl⟩ := get_ref hj
      obtain ⟨x, hx, ex⟩ := ats.get ht'
      have ext := g _ _ ex
      have lt : (ps.take j).length ≤ ps.length := by rw [List.length_take]; exact Nat.min_le_right _ _
      refine ⟨_, rfl, .inl ⟨rfl, _, SqL.of ep⟩, _, rfl, p, t', _, _, rfl, rfl, ep, SqT.of ext, ?_, ?_⟩
      · rw [List.length_cons, len_zi, len_zi, two_length]
        exact small (by show _ + 1 + 2 ≤ 1000; omega)
      · refine ⟨_, rfl, same_mut g hp, ?_⟩
        rw [upd_same, List.take_add_one, hx, List.flatMap_append, zi_append, List.map_append]
        rfl
    · rintro σ H' ⟨v7, rfl, g, ep⟩
      rw [List.length_map, la, List.take_length] at ep
      exact ⟨_, rfl, q H' p ep⟩
end
end Tw
namespace Tw
open PySem PySem.Spec PyProof.Rows L2 Tm
theorem all_mk {P : Program} {w : World} {K : PySem.W.Frag} {h : Heap} {mg : Str → Option Value} {fa f0 f1 f2 f3 f4 f5 f6 f7 f8 f9 f10 f11 f12 f13 f14 f15 f16 : Addr} (X : K.In h) (G : h.Ns mainGlobals mg) (hfa : mg "swaps" = some (.ref fa))
    {od0 an0 od1 an1 od2 an2 od3 an3 od4 an4 od5 an5 od6 an6 od7 an7 od8 an8 od9 an9 od10 an10 od11 an11 od12 an12 od13 an13 od14 an14 od15 an15 od16 an16 : Option Addr} {sl0 sl1 sl2 sl3 sl4 sl5 sl6 sl7 sl8 sl9 sl10 sl11 sl12 sl13 sl14 sl15 sl16 : Array (Option Value)} {oc0 kV0 dc0 pm0 cd0 ct0 oc1 kV1 dc1 pm1 cd1 ct1 oc2 kV2 dc2 pm2 cd2 ct2 oc3 kV3 dc3 pm3 cd3 ct3 oc4 kV4 dc4 pm4 cd4 ct4 oc5 kV5 dc5 pm5 cd5 ct5 oc6 kV6 dc6 pm6 cd6 ct6 oc7 kV7 dc7 pm7 cd7 ct7 oc8 kV8 dc8 pm8 cd8 ct8 oc9 kV9 dc9 pm9 cd9 ct9 oc10 kV10 dc10 pm10 cd10 ct10 oc11 kV11 dc11 pm11 cd11 ct11 oc12 kV12 dc12 pm12 cd12 ct12 oc13 kV13 dc13 pm13 cd13 ct13 oc14 kV14 dc14 pm14 cd14 ct14 oc15 kV15 dc15 pm15 cd15 ct15 oc16 kV16 dc16 pm16 cd16 ct16 : Value} {tk0 tk1 tk2 tk3 tk4 tk5 : Tok}
    (a0 : PySem.W.nsIn K mainGlobals "swaps" = some (some (.ref f0))) (l0 : K.lookup f0 = some ⟨oc0, od0, .func (PySem.W.fnOf "swaps" "swaps" (defArgs sMain) (defBody sMain) (defScope sMain) .none kV0 dc0 pm0 an0 cd0 ct0), sl0⟩) (c0 : PySem.W.codeIn K cd0 "swaps" = true) (k0 : PySem.W.keepIn K (.ref f0) = true)
    (a1 : PySem.W.nsIn K mainGlobals "as_told" = some (some (.ref f1))) (l1 : K.lookup f1 = some ⟨oc1, od1, .func (PySem.W.fnOf "as_told" "as_told" (defArgs sTold) (defBody sTold) (defScope sTold) .none kV1 dc1 pm1 an1 cd1 ct1), sl1⟩) (c1 : PySem.W.codeIn K cd1 "as_told" = true) (k1 : PySem.W.keepIn K (.ref f1) = true)
    (a2 : PySem.W.nsIn K mainGlobals "within" = some (some (.ref f2))) (l2 : K.lookup f2 = some ⟨oc2, od2, .func (PySem.W.fnOf "within" "within" (defArgs sWithin) (defBody sWithin) (defScope sWithin) .none kV2 dc2 pm2 an2 cd2 ct2), sl2⟩) (c2 : PySem.W.codeIn K cd2 "within" = true) (k2 : PySem.W.keepIn K (.ref f2) = true)
    (a3 : PySem.W.nsIn K mainGlobals "choosers" = some (some (.ref f3))) (l3 : K.lookup f3 = some ⟨oc3, od3, .func (PySem.W.fnOf "choosers" "choosers" (defArgs sChoosers) (defBody sChoosers) (defScope sChoosers) .none kV3 dc3 pm3 an3 cd3 ct3), sl3⟩) (c3 : PySem.W.codeIn K cd3 "choosers" = true) (k3 : PySem.W.keepIn K (.ref f3) = true)
    (a4 : PySem.W.nsIn K mainGlobals "party_on_turn" = some (some (.ref f4))) (l4 : K.lookup f4 = some ⟨oc4, od4, .func (PySem.W.fnOf "party_on_turn" "party_on_turn" (defArgs sParty) (defBody sParty) (defScope sParty) .none kV4 dc4 pm4 an4 cd4 ct4), sl4⟩) (c4 : PySem.W.codeIn K cd4 "party_on_turn" = true) (k4 : PySem.W.keepIn K (.ref f4) = true)
    (a5 : PySem.W.nsIn K mainGlobals "taken_by_all" = some (some (.ref f5))) (l5 : K.lookup f5 = some ⟨oc5, od5, .func (PySem.W.fnOf "taken_by_all" "taken_by_all" (defArgs sAll) (defBody sAll) (defScope sAll) .none kV5 dc5 pm5 an5 cd5 ct5), sl5⟩) (c5 : PySem.W.codeIn K cd5 "taken_by_all" = true) (k5 : PySem.W.keepIn K (.ref f5) = true)
    (a6 : PySem.W.nsIn K mainGlobals "taken_plainly" = some (some (.ref f6))) (l6 : K.lookup f6 = some ⟨oc6, od6, .func (PySem.W.fnOf "taken_plainly" "taken_plainly" (defArgs sTaken) (defBody sTaken) (defScope sTaken) .none kV6 dc6 pm6 an6 cd6 ct6), sl6⟩) (c6 : PySem.W.codeIn K cd6 "taken_plainly" = true) (k6 : PySem.W.keepIn K (.ref f6) = true)
    (a7 : PySem.W.nsIn K mainGlobals "worths_of" = some (some (.ref f7))) (l7 : K.lookup f7 = some ⟨oc7, od7, .func (PySem.W.fnOf "worths_of" "worths_of" (defArgs sOwn) (defBody sOwn) (defScope sOwn) .none kV7 dc7 pm7 an7 cd7 ct7), sl7⟩) (c7 : PySem.W.codeIn K cd7 "worths_of" = true) (k7 : PySem.W.keepIn K (.ref f7) = true)
    (a8 : PySem.W.nsIn K mainGlobals "worth_most" = some (some (.ref f8))) (l8 : K.lookup f8 = some ⟨oc8, od8, .func (PySem.W.fnOf "worth_most" "worth_most" (defArgs sMost) (defBody sMost) (defScope sMost) .none kV8 dc8 pm8 an8 cd8 ct8), sl8⟩) (c8 : PySem.W.codeIn K cd8 "worth_most" = true) (k8 : PySem.W.keepIn K (.ref f8) = true)
    (a9 : PySem.W.nsIn K mainGlobals "taken_ahead" = some (some (.ref f9))) (l9 : K.lookup f9 = some ⟨oc9, od9, .func (PySem.W.fnOf "taken_ahead" "taken_ahead" (defArgs sAhead) (defBody sAhead) (defScope sAhead) .none kV9 dc9 pm9 an9 cd9 ct9), sl9⟩) (c9 : PySem.W.codeIn K cd9 "taken_ahead" = true) (k9 : PySem.W.keepIn K (.ref f9) = true)
    (a10 : PySem.W.nsIn K mainGlobals "parts_of_offices" = some (some (.ref f10))) (l10 : K.lookup f10 = some ⟨oc10, od10, .func (PySem.W.fnOf "parts_of_offices" "parts_of_offices" (defArgs sParts) (defBody sParts) (defScope sParts) .none kV10 dc10 pm10 an10 cd10 ct10), sl10⟩) (c10 : PySem.W.codeIn K cd10 "parts_of_offices" = true) (k10 : PySem.W.keepIn K (.ref f10) = true)
    (a11 : PySem.W.nsIn K mainGlobals "without" = some (some (.ref f11))) (l11 : K.lookup f11 = some ⟨oc11, od11, .func (PySem.W.fnOf "without" "without" (defArgs sWithout) (defBody sWithout) (defScope sWithout) .none kV11 dc11 pm11 an11 cd11 ct11), sl11⟩) (c11 : PySem.W.codeIn K cd11 "without" = true) (k11 : PySem.W.keepIn K (.ref f11) = true)
    (a12 : PySem.W.nsIn K mainGlobals "best_course" = some (some (.ref f12))) (l12 : K.lookup f12 = some ⟨oc12, od12, .func (PySem.W.fnOf "best_course" "best_course" (defArgs sBest) (defBody sBest) (defScope sBest) .none kV12 dc12 pm12 an12 cd12 ct12), sl12⟩) (c12 : PySem.W.codeIn K cd12 "best_course" = true) (k12 : PySem.W.keepIn K (.ref f12) = true)
    (a13 : PySem.W.nsIn K mainGlobals "gets" = some (some (.ref f13))) (l13 : K.lookup f13 = some ⟨oc13, od13, .func (PySem.W.fnOf "gets" "gets" (defArgs sGets) (defBody sGets) (defScope sGets) .none kV13 dc13 pm13 an13 cd13 ct13), sl13⟩) (c13 : PySem.W.codeIn K cd13 "gets" = true) (k13 : PySem.W.keepIn K (.ref f13) = true)
    (a14 : PySem.W.nsIn K mainGlobals "holders_of" = some (some (.ref f14))) (l14 : K.lookup f14 = some ⟨oc14, od14, .func (PySem.W.fnOf "holders_of" "holders_of" (defArgs sHold) (defBody sHold) (defScope sHold) .none kV14 dc14 pm14 an14 cd14 ct14), sl14⟩) (c14 : PySem.W.codeIn K cd14 "holders_of" = true) (k14 : PySem.W.keepIn K (.ref f14) = true)
    (a15 : PySem.W.nsIn K mainGlobals "pairs_to_swap" = some (some (.ref f15))) (l15 : K.lookup f15 = some ⟨oc15, od15, .func (PySem.W.fnOf "pairs_to_swap" "pairs_to_swap" (defArgs sPairs) (defBody sPairs) (defScope sPairs) .none kV15 dc15 pm15 an15 cd15 ct15), sl15⟩) (c15 : PySem.W.codeIn K cd15 "pairs_to_swap" = true) (k15 : PySem.W.keepIn K (.ref f15) = true)
    (a16 : PySem.W.nsIn K mainGlobals "would_rather" = some (some (.ref f16))) (l16 : K.lookup f16 = some ⟨oc16, od16, .func (PySem.W.fnOf "would_rather" "would_rather" (defArgs sRather) (defBody sRather) (defScope sRather) .none kV16 dc16 pm16 an16 cd16 ct16), sl16⟩) (c16 : PySem.W.codeIn K cd16 "would_rather" = true) (k16 : PySem.W.keepIn K (.ref f16) = true)
    (cn0 : PySem.W.nsIn K mainGlobals "MOST_OFFICES" = some (some (.int 5 tk0)))
    (cn1 : PySem.W.nsIn K mainGlobals "MOST_PARTIES" = some (some (.int 4 tk1)))
    (cn2 : PySem.W.nsIn K mainGlobals "MOST_SEATS" = some (some (.int 200 tk2)))
    (cn3 : PySem.W.nsIn K mainGlobals "MOST_WORTH" = some (some (.int 50 tk3)))
    (cn4 : PySem.W.nsIn K mainGlobals "NOT_AS_TOLD" = some (some (.int (-22) tk4)))
    (cn5 : PySem.W.nsIn K mainGlobals "AHEAD" = some (some (.int 1 tk5)))
    (z0 : PySem.W.nsIn K mainGlobals "len" = some none)
    (z1 : PySem.W.nsIn K mainGlobals "range" = some none)
    (z2 : PySem.W.nsIn K mainGlobals "list" = some none)
    (z3 : PySem.W.nsIn K mainGlobals "tuple" = some none)
    (z4 : PySem.W.nsIn K mainGlobals "zip" = some none)
    : ∃ fd : FuncData, (∀ (s : Shared) (us : List Value), us.length = (["n", "k", "seats", "worth"] : List Str).length → BindsTo s fd ⟨us, []⟩ ((["n", "k", "seats", "worth"] : List Str).zip us)) ∧ ∀ base : Heap, K.In base → base.Ns mainGlobals mg → FnOk P w K mg base CX0 5 fa fd ["n", "k", "seats", "worth"] (spMain K) := by
  have e := hfa.symm.trans (PySem.W.mg_of X G a0)
  cases e
  have F0 := fun_mk (st := sMain) l0 c0 k0
  have F1 := fun_mk (st := sTold) l1 c1 k1
  have b1 := F1.binds (ps := ["n", "seats", "worth"]) fun _ _ _ _ _ _ us hl => match us, hl with | [_, _, _], _ => rfl
  have D_as_told : Def K mg "as_told" sTold ["n", "seats", "worth"] := ⟨f1, _, F1, PySem.W.mg_of X G a1, b1⟩
  have F2 := fun_mk (st := sWithin) l2 c2 k2
  have b2 := F2.binds (ps := ["numbers", "least", "most"]) fun _ _ _ _ _ _ us hl => match us, hl with | [_, _, _], _ => rfl
  have D_within : Def K mg "within" sWithin ["numbers", "least", "most"] := ⟨f2, _, F2, PySem.W.mg_of X G a2, b2⟩
  have F3 := fun_mk (st := sChoosers) l3 c3 k3
  have b3 := F3.binds (ps := ["n", "seats"]) fun _ _ _ _ _ _ us hl => match us, hl with | [_, _], _ => rfl
  have D_choosers : Def K mg "choosers" sChoosers ["n", "seats"] := ⟨f3, _, F3, PySem.W.mg_of X G a3, b3⟩
  have F4 := fun_mk (st := sParty) l4 c4 k4
  have b4 := F4.binds (ps := ["seats", "had"]) fun _ _ _ _ _ _ us hl => match us, hl with | [_, _], _ => rfl
  have D_party_on_turn : Def K mg "party_on_turn" sParty ["seats", "had"] := ⟨f4, _, F4, PySem.W.mg_of X G a4, b4⟩
  have F5 := fun_mk (st := sAll) l5 c5 k5
  have b5 := F5.binds (ps := ["n", "k", "parties", "worth"]) fun _ _ _ _ _ _ us hl => match us, hl with | [_, _, _, _], _ => rfl
  have D_taken_by_all : Def K mg "taken_by_all" sAll ["n", "k", "parties", "worth"] := ⟨f5, _, F5, PySem.W.mg_of X G a5, b5⟩
  have F6 := fun_mk (st := sTaken) l6 c6 k6
  have b6 := F6.binds (ps := ["n", "parties", "worth"]) fun _ _ _ _ _ _ us hl => match us, hl with | [_, _, _], _ => rfl
  have D_taken_plainly : Def K mg "taken_plainly" sTaken ["n", "parties", "worth"] := ⟨f6, _, F6, PySem.W.mg_of X G a6, b6⟩
  have F7 := fun_mk (st := sOwn) l7 c7 k7
  have b7 := F7.binds (ps := ["n", "party", "worth"]) fun _ _ _ _ _ _ us hl => match us, hl with | [_, _, _], _ => rfl
  have D_worths_of : Def K mg "worths_of" sOwn ["n", "party", "worth"] := ⟨f7, _, F7, PySem.W.mg_of X G a7, b7⟩
  have F8 := fun_mk (st := sMost) l8 c8 k8
  have b8 := F8.binds (ps := ["free", "own_worth"]) fun _ _ _ _ _ _ us hl => match us, hl with | [_, _], _ => rfl
  have D_worth_most : Def K mg "worth_most" sMost ["free", "own_worth"] := ⟨f8, _, F8, PySem.W.mg_of X G a8, b8⟩
  have F9 := fun_mk (st := sAhead) l9 c9 k9
  have b9 := F9.binds (ps := ["n", "parties", "worth", "lookers"]) fun _ _ _ _ _ _ us hl => match us, hl with | [_, _, _, _], _ => rfl
  have D_taken_ahead : Def K mg "taken_ahead" sAhead ["n", "parties", "worth", "lookers"] := ⟨f9, _, F9, PySem.W.mg_of X G a9, b9⟩
  have F10 := fun_mk (st := sParts) l10 c10 k10
  have b10 := F10.binds (ps := ["n"]) fun _ _ _ _ _ _ us hl => match us, hl with | [_], _ => rfl
  have D_parts_of_offices : Def K mg "parts_of_offices" sParts ["n"] := ⟨f10, _, F10, PySem.W.mg_of X G a10, b10⟩
  have F11 := fun_mk (st := sWithout) l11 c11 k11
  have b11 := F11.binds (ps := ["offices", "office"]) fun _ _ _ _ _ _ us hl => match us, hl with | [_, _], _ => rfl
  have D_without : Def K mg "without" sWithout ["offices", "office"] := ⟨f11, _, F11, PySem.W.mg_of X G a11, b11⟩
  have F12 := fun_mk (st := sBest) l12 c12 k12
  have b12 := F12.binds (ps := ["n", "parties", "courses", "worth"]) fun _ _ _ _ _ _ us hl => match us, hl with | [_, _, _, _], _ => rfl
  have D_best_course : Def K mg "best_course" sBest ["n", "parties", "courses", "worth"] := ⟨f12, _, F12, PySem.W.mg_of X G a12, b12⟩
  have F13 := fun_mk (st := sGets) l13 c13 k13
  have b13 := F13.binds (ps := ["n", "party", "parties", "offices", "worth"]) fun _ _ _ _ _ _ us hl => match us, hl with | [_, _, _, _, _], _ => rfl
  have D_gets : Def K mg "gets" sGets ["n", "party", "parties", "offices", "worth"] := ⟨f13, _, F13, PySem.W.mg_of X G a13, b13⟩
  have F14 := fun_mk (st := sHold) l14 c14 k14
  have b14 := F14.binds (ps := ["parties", "offices"]) fun _ _ _ _ _ _ us hl => match us, hl with | [_, _], _ => rfl
  have D_holders_of : Def K mg "holders_of" sHold ["parties", "offices"] := ⟨f14, _, F14, PySem.W.mg_of X G a14, b14⟩
  have F15 := fun_mk (st := sPairs) l15 c15 k15
  have b15 := F15.binds (ps := ["n", "holders", "worth"]) fun _ _ _ _ _ _ us hl => match us, hl with | [_, _, _], _ => rfl
  have D_pairs_to_swap : Def K mg "pairs_to_swap" sPairs ["n", "holders", "worth"] := ⟨f15, _, F15, PySem.W.mg_of X G a15, b15⟩
  have F16 := fun_mk (st := sRather) l16 c16 k16
  have b16 := F16.binds (ps := ["n", "party", "other", "own", "worth"]) fun _ _ _ _ _ _ us hl => match us, hl with | [_, _, _, _, _], _ => rfl
  have D_would_rather : Def K mg "would_rather" sRather ["n", "party", "other", "own", "worth"] := ⟨f16, _, F16, PySem.W.mg_of X G a16, b16⟩
  have z_len := PySem.W.mg_none_of X G z0
  have z_range := PySem.W.mg_none_of X G z1
  have z_list := PySem.W.mg_none_of X G z2
  have z_tuple := PySem.W.mg_none_of X G z3
  have z_zip := PySem.W.mg_none_of X G z4
  have B : Bounds mg := ⟨⟨_, PySem.W.mg_of X G cn0, _, rfl⟩, ⟨_, PySem.W.mg_of X G cn1, _, rfl⟩, ⟨_, PySem.W.mg_of X G cn2, _, rfl⟩, ⟨_, PySem.W.mg_of X G cn3, _, rfl⟩⟩
  have no : ∃ u, mg "NOT_AS_TOLD" = some u ∧ RelV (.int (-22)) u := ⟨_, PySem.W.mg_of X G cn4, _, rfl⟩
  refine ⟨PySem.W.fnOf "swaps" "swaps" (defArgs sMain) (defBody sMain) (defScope sMain) .none kV0 dc0 pm0 an0 cd0 ct0, fun s us hu => match us, hu with | [_, _, _, _], _ => .of_eq rfl, fun base _ _ => ?_⟩
  have hTold := has_told (P := P) (w := w) (base := base) D_as_told B z_len (has_within D_within)
  have hCh := has_choosers (P := P) (w := w) (base := base) D_choosers z_len z_range (has_party D_party_on_turn z_len z_range)
  have c_ahead : ∃ u, mg "AHEAD" = some u ∧ RelV (.int 1) u := ⟨_, PySem.W.mg_of X G cn5, _, rfl⟩
  have hMo := has_most (P := P) (w := w) (base := base) D_worth_most
  have hOw := has_own (P := P) (w := w) (base := base) D_worths_of
  have hTk := has_taken (P := P) (w := w) (base := base) D_taken_plainly z_range z_list hMo hOw
  have hWo := has_without (P := P) (w := w) (base := base) D_without z_tuple
  have hGe := has_gets (P := P) (w := w) (base := base) D_gets z_zip
  have hBe := has_best (P := P) (w := w) (base := base) D_best_course hGe
  have hPa := has_parts (P := P) (w := w) (base := base) D_parts_of_offices z_range
  have hAh := has_ahead (P := P) (w := w) (base := base) D_taken_ahead z_len z_range z_list z_tuple hPa hMo hOw hWo hBe
  have hAll := has_all (P := P) (w := w) (base := base) D_taken_by_all c_ahead hTk hAh
  have hRa := has_rather (P := P) (w := w) (base := base) D_would_rather
  have hHo := has_hold (P := P) (w := w) (base := base) D_holders_of z_len z_zip
  have hPs := has_pairs (P := P) (w := w) (base := base) D_pairs_to_swap z_range hRa
  exact ok_main F0 no c_ahead z_len hTold hCh hHo hPs hAll
end Tw
open PySem PySem.W PyProof.Rows
set_option maxRecDepth 100000 in
set_option maxHeartbeats 8000000 in
theorem PySem.Challenge.cw_turns_s06_swaps_holds : PySem.Challenge.rw_turns_s06_swaps.Holds := by
  w_on; k_headS; (case hw => exact ⟨[.int 0, .int 0, .list [], .list []], by decide +kernel, by decide +kernel⟩)
  k_fillS
  refine L2.walk_specK (r := PySem.Challenge.rw_turns_s06_swaps) (k := 5) (CX := L2.CX0) (ps := ["n", "k", "seats", "worth"]) (sp := Tw.spMain) (by decide +kernel) rfl rfl ⟨rfl, by decide, by decide⟩ (fun w h Y => PySem.W.kIn_of Y) ?F ?S (fun _ _ _ _ z => z)
  case F =>
    intro w mg fa h Y KX G hmg
    refine' Tw.all_mk KX G hmg ?a0 ?l0 ?c0 ?k0 ?a1 ?l1 ?c1 ?k1 ?a2 ?l2 ?c2 ?k2 ?a3 ?l3 ?c3 ?k3 ?a4 ?l4 ?c4 ?k4 ?a5 ?l5 ?c5 ?k5 ?a6 ?l6 ?c6 ?k6 ?a7 ?l7 ?c7 ?k7 ?a8 ?l8 ?c8 ?k8 ?a9 ?l9 ?c9 ?k9 ?a10 ?l10 ?c10 ?k10 ?a11 ?l11 ?c11 ?k11 ?a12 ?l12 ?c12 ?k12 ?a13 ?l13 ?c13 ?k13 ?a14 ?l14 ?c14 ?k14 ?a15 ?l15 ?c15 ?k15 ?a16 ?l16 ?c16 ?k16 ?cn0 ?cn1 ?cn2 ?cn3 ?cn4 ?cn5 ?z0 ?z1 ?z2 ?z3 ?z4
    (case a0 => k_is)
    (case l0 => k_is)
    (case c0 => k_is)
    (case k0 => k_is)
    (case a1 => k_is)
    (case l1 => k_is)
    (case c1 => k_is)
    (case k1 => k_is)
    (case a2 => k_is)
    (case l2 => k_is)
    (case c2 => k_is)
    (case k2 => k_is)
    (case a3 => k_is)
    (case l3 => k_is)
    (case c3 => k_is)
    (case k3 => k_is)
    (case a4 => k_is)
    (case l4 => k_is)
    (case c4 => k_is)
    (case k4 => k_is)
    (case a5 => k_is)
    (case l5 => k_is)
    (case c5 => k_is)
    (case k5 => k_is)
    (case a6 => k_is)
    (case l6 => k_is)
    (case c6 => k_is)
    (case k6 => k_is)
    (case a7 => k_is)
    (case l7 => k_is)
    (case c7 => k_is)
    (case k7 => k_is)
    (case a8 => k_is)
    (case l8 => k_is)
    (case c8 => k_is)
    (case k8 => k_is)
    (case a9 => k_is)
    (case l9 => k_is)
    (case c9 => k_is)
    (case k9 => k_is)
    (case a10 => k_is)
    (case l10 => k_is)
    (case c10 => k_is)
    (case k10 => k_is)
    (case a11 => k_is)
    (case l11 => k_is)
    (case c11 => k_is)
    (case k11 => k_is)
    (case a12 => k_is)
    (case l12 => k_is)
    (case c12 => k_is)
    (case k12 => k_is)
    (case a13 => k_is)
    (case l13 => k_is)
    (case c13 => k_is)
    (case k13 => k_is)
    (case a14 => k_is)
    (case l14 => k_is)
    (case c14 => k_is)
    (case k14 => k_is)
    (case a15 => k_is)
    (case l15 => k_is)
    (case c15 => k_is)
    (case k15 => k_is)
    (case a16 => k_is)
    (case l16 => k_is)
    (case c16 => k_is)
    (case k16 => k_is)
    (case cn0 => k_is)
    (case cn1 => k_is)
    (case cn2 => k_is)
    (case cn3 => k_is)
    (case cn4 => k_is)
    (case cn5 => k_is)
    (case z0 => k_is)
    (case z1 => k_is)
    (case z2 => k_is)
    (case z3 => k_is)
    (case z4 => k_is)
  case S =>
    intro K H xs a hO hwi hask hx
    cases hx with
    | cons h1 h2 =>
      cases h2 with
      | cons hi h2 =>
        cases h2 with
        | cons h2 h3 =>
          cases h3 with
          | cons h3 h4 =>
            cases h4
            cases h1
            cases hi
            cases h2 with
            | lst hs ha =>
              cases h3 with
              | lst hs2 ha2 =>
                have e := L2.ints_dw a.2.2.1 _ ha
                have e2 := L2.ints_dw a.2.2.2.1 _ ha2
                subst e
                subst e2
                have q : (Codec.inInt 0 4294967295 a.1 && (Codec.inInt 0 4294967295 a.2.1 && ((Codec.inLen 0 8 a.2.2.1 && a.2.2.1.all (Codec.inInt 0 4294967295)) && ((Codec.inLen 0 28 a.2.2.2.1 && a.2.2.2.1.all (Codec.inInt 0 4294967295)) && true)))) = true := hwi
                simp only [Bool.and_eq_true] at q
                obtain ⟨q1, q0, ⟨_, q2⟩, ⟨_, q3⟩, _⟩ := q
                exact ⟨_, _, a.1, a.2.1, a.2.2.1, a.2.2.2.1, rfl, (Codec.inInt_iff.mp q1).1, (Codec.inInt_iff.mp q0).1, fun x hx => (Codec.inInt_iff.mp (List.all_eq_true.mp q2 x hx)).1, fun x hx => (Codec.inInt_iff.mp (List.all_eq_true.mp q3 x hx)).1, hs, hs2, fun H' p hp => .lst (L2.SqL.of hp) (L2.dw_ints _)⟩
#print axioms PySem.Challenge.cw_turns_s06_swaps_holds
