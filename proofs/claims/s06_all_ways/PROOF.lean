import PyProof.Rows.All
import Wide.All
import OpenK.AllK
import Wide.FinOn
import Open.SpecLaws
import KE.OsGo
import HandS.ForSpec
import HandS.Comp
import PySem.Challenge.RW_ratherwhere_s06_all_ways
set_option Elab.async false
set_option linter.all false
set_option maxRecDepth 100000
set_option maxHeartbeats 2000000

namespace Rw
open Ks565
/-! ### The mathematics: what the program's loops add up to, in the specification's words -/
/-- one more item of a list taken -/
theorem take_more {α : Type} : ∀ {l : List α} {i : Nat} {x : α}, l[i]? = some x → l.take (i + 1) = l.take i ++ [x]
  | [], i, x, h => by simp at h
  | a :: l, 0, x, h => by
    have e : a = x := Option.some.inj h
    subst e
    rfl
  | a :: l, i + 1, x, h => by
    have ih := take_more (l := l) (i := i) (x := x) h
    show a :: l.take (i + 1) = a :: l.take i ++ [x]
    rw [ih]
    rfl
theorem getD_some {α : Type} {l : List α} {i : Nat} {x d : α} (h : l[i]? = some x) : l.getD i d = x := by
  rw [List.getD_eq_getElem?_getD, h]; rfl
theorem some_getD {α : Type} {l : List α} {i : Nat} (d : α) (h : i < l.length) : l[i]? = some (l.getD i d) := by
  rw [List.getD_eq_getElem?_getD, List.getElem?_eq_getElem h]; rfl

/-! #### what is handed in is as told -/
def wOk (x : Int) : Bool := !(decide (x < -20) || decide (20 < x))
def worthOk (n : Int) (v : List Int) : Bool := decide (1 ≤ n) && decide (n ≤ 5) && decide ((v.length : Int) = n * n) && v.all wOk
def groupsOk (n : Int) (g : List Int) : Bool := decide ((g.length : Int) = n) && g.all (fun x => decide (x < n))
theorem worthOk_lo {n : Int} {v : List Int} (h : n < 1) : worthOk n v = false := by
  unfold worthOk
  rw [decide_eq_false (show ¬ 1 ≤ n by omega)]
  rfl
theorem worthOk_hi {n : Int} {v : List Int} (h : 5 < n) : worthOk n v = false := by
  unfold worthOk
  rw [decide_eq_false (show ¬ n ≤ 5 by omega), Bool.and_false]
  rfl
def peopleOk (n : Int) : Bool := decide (1 ≤ n) && decide (n ≤ 5)
theorem peopleOk_lo {n : Int} (h : ¬ 1 ≤ n) : peopleOk n = false := by
  unfold peopleOk
  rw [decide_eq_false h]
  rfl
theorem peopleOk_hi {n : Int} (h : 1 ≤ n) : peopleOk n = decide (n ≤ 5) := by
  unfold peopleOk
  rw [decide_eq_true h]
  rfl
theorem peopleOk_says {n : Int} (h : peopleOk n = true) : 1 ≤ n ∧ n ≤ 5 := by
  unfold peopleOk at h
  rw [Bool.and_eq_true, decide_eq_true_iff, decide_eq_true_iff] at h
  exact h
theorem peopleOk_not {n : Int} (h : peopleOk n = false) : n < 1 ∨ 5 < n := by
  by_cases c : 1 ≤ n
  · rw [peopleOk_hi c, decide_eq_false_iff_not] at h
    omega
  · omega
theorem worthOk_people {n : Int} {v : List Int} (h : peopleOk n = false) : worthOk n v = false := by
  rcases peopleOk_not h with q | q
  · exact worthOk_lo q
  · exact worthOk_hi q
theorem worthOk_len {n : Int} {v : List Int} (h : (v.length : Int) ≠ n * n) : worthOk n v = false := by
  unfold worthOk
  rw [decide_eq_false h, Bool.and_false]
  rfl
theorem worthOk_item {n : Int} {v : List Int} {i : Nat} {x : Int} (h : v[i]? = some x) (hx : wOk x = false) : worthOk n v = false := by
  unfold worthOk
  have e : v.all wOk = false := by
    rw [List.all_eq_false]
    exact ⟨x, List.mem_of_getElem? h, by rw [hx]; simp⟩
  rw [e, Bool.and_false]
theorem worthOk_all {n : Int} {v : List Int} (h1 : ¬ n < 1) (h2 : ¬ 5 < n) (h3 : (v.length : Int) = n * n) (h4 : ∀ i x, i < v.length → v[i]? = some x → wOk x = true) : worthOk n v = true := by
  unfold worthOk
  have e : v.all wOk = true := by
    rw [List.all_eq_true]
    intro x hx
    obtain ⟨i, hi⟩ := List.getElem?_of_mem hx
    exact h4 i x (List.getElem?_eq_some_iff.mp hi).1 hi
  rw [e, decide_eq_true h3, decide_eq_true (show 1 ≤ n by omega), decide_eq_true (show n ≤ 5 by omega)]
  rfl
theorem wOk_lo {x : Int} (h : x < -20) : wOk x = false := by
  unfold wOk
  rw [decide_eq_true h]
  rfl
theorem wOk_hi {x : Int} (h : 20 < x) : wOk x = false := by
  unfold wOk
  rw [decide_eq_true h, Bool.or_true]
  rfl
theorem wOk_in {x : Int} (h1 : ¬ x < -20) (h2 : ¬ 20 < x) : wOk x = true := by
  unfold wOk
  rw [decide_eq_false h1, decide_eq_false h2]
  rfl
theorem worthOk_says {n : Int} {v : List Int} (h : worthOk n v = true) : 1 ≤ n ∧ n ≤ 5 ∧ (v.length : Int) = n * n := by
  unfold worthOk at h
  rw [Bool.and_eq_true, Bool.and_eq_true, Bool.and_eq_true, decide_eq_true_iff, decide_eq_true_iff, decide_eq_true_iff] at h
  exact ⟨h.1.1.1, h.1.1.2, h.1.2⟩
theorem groupsOk_len {n : Int} {g : List Int} (h : (g.length : Int) ≠ n) : groupsOk n g = false := by
  unfold groupsOk
  rw [decide_eq_false h]
  rfl
theorem groupsOk_item {n : Int} {g : List Int} {i : Nat} {x : Int} (h : g[i]? = some x) (hx : n ≤ x) : groupsOk n g = false := by
  unfold groupsOk
  have e : (g.all fun x => decide (x < n)) = false := by
    rw [List.all_eq_false]
    exact ⟨x, List.mem_of_getElem? h, by rw [decide_eq_false (show ¬ x < n by omega)]; simp⟩
  rw [e, Bool.and_false]
theorem groupsOk_all {n : Int} {g : List Int} (h3 : (g.length : Int) = n) (h4 : ∀ i x, i < g.length → g[i]? = some x → x < n) : groupsOk n g = true := by
  unfold groupsOk
  have e : (g.all fun x => decide (x < n)) = true := by
    rw [List.all_eq_true]
    intro x hx
    obtain ⟨i, hi⟩ := List.getElem?_of_mem hx
    exact decide_eq_true (h4 i x (List.getElem?_eq_some_iff.mp hi).1 hi)
  rw [e, decide_eq_true h3]
  rfl
theorem groupsOk_says {n : Int} {g : List Int} (h : groupsOk n g = true) : (g.length : Int) = n := by
  unfold groupsOk at h
  rw [Bool.and_eq_true, decide_eq_true_iff] at h
  exact h.1
theorem wOk_abs (x : Int) : (!decide (20 < x.natAbs)) = wOk x := by
  unfold wOk
  rw [Bool.eq_iff_iff]
  simp
  omega
theorem any_not_all {α : Type} (p : α → Bool) : ∀ l : List α, l.any p = !(l.all fun x => !p x)
  | [] => rfl
  | a :: l => by
    rw [List.any_cons, List.all_cons, any_not_all p l]
    cases p a <;> simp
theorem folk_ok {n : Int} {v : List Int} (h : worthOk n v = true) : folkOf n.toNat v = some ⟨n.toNat, v⟩ := by
  unfold worthOk at h
  rw [Bool.and_eq_true, Bool.and_eq_true, Bool.and_eq_true, decide_eq_true_iff, decide_eq_true_iff, decide_eq_true_iff] at h
  obtain ⟨⟨⟨h1, h2⟩, h3⟩, h4⟩ := h
  unfold folkOf
  rw [if_neg]
  rintro (q | q | q | q)
  · omega
  · have : (5 : Nat) < n.toNat := q
    omega
  · apply q
    have e : ((n.toNat : Nat) : Int) = n := by omega
    have e2 : (v.length : Int) = ((n.toNat * n.toNat : Nat) : Int) := by
      rw [Int.natCast_mul, e, h3]
    omega
  · rw [any_not_all] at q
    have e : (v.all fun x => !decide (MOST < x.natAbs)) = v.all wOk := by
      congr 1
      funext x
      exact wOk_abs x
    rw [e, h4] at q
    cases q
theorem folk_no {n : Int} (h0 : 0 ≤ n) {v : List Int} (h : worthOk n v = false) : folkOf n.toNat v = none := by
  unfold folkOf
  rw [if_pos]
  by_cases c1 : 1 ≤ n
  · by_cases c2 : n ≤ 5
    · by_cases c3 : (v.length : Int) = n * n
      · refine .inr (.inr (.inr ?_))
        rw [any_not_all]
        have e : (v.all fun x => !decide (MOST < x.natAbs)) = v.all wOk := by
          congr 1
          funext x
          exact wOk_abs x
        rw [e]
        unfold worthOk at h
        rw [decide_eq_true c1, decide_eq_true c2, decide_eq_true c3] at h
        simp only [Bool.true_and] at h
        rw [h]
        rfl
      · refine .inr (.inr (.inl fun q => c3 ?_))
        have e : ((n.toNat : Nat) : Int) = n := by omega
        rw [q, Int.natCast_mul, e]
    · refine .inr (.inl ?_)
      show (5 : Nat) < n.toNat
      omega
  · exact .inl (by omega)
theorem all_toNat {n : Int} (h0 : 0 ≤ n) : ∀ {g : List Int}, (∀ x ∈ g, 0 ≤ x) → ((g.map Int.toNat).all fun x => decide (x < n.toNat)) = g.all fun x => decide (x < n)
  | [], _ => rfl
  | a :: g, h => by
    have ha := h a (List.mem_cons_self ..)
    rw [List.map_cons, List.all_cons, List.all_cons, all_toNat h0 fun x hx => h x (List.mem_cons_of_mem _ hx)]
    congr 1
    rw [Bool.eq_iff_iff, decide_eq_true_iff, decide_eq_true_iff]
    omega
theorem okGroups_eq {n : Int} (h0 : 0 ≤ n) {v g : List Int} (h : ∀ x ∈ g, 0 ≤ x) : okGroups ⟨n.toNat, v⟩ (g.map Int.toNat) = groupsOk n g := by
  unfold okGroups groupsOk
  rw [all_toNat h0 h, List.length_map]
  congr 1
  rw [Bool.eq_iff_iff, beq_iff_eq, decide_eq_true_iff]
  show g.length = n.toNat ↔ _
  omega

/-! #### groups numbered as they first come -/
def seenStep (s : List Int) (x : Int) : List Int := if x ∈ s then s else s ++ [x]
def naTurn (s : List Int × List Nat) (x : Int) : List Int × List Nat := (seenStep s.1 x, s.2 ++ [(seenStep s.1 x).idxOf x])
def na (g : List Int) : List Int × List Nat := g.foldl naTurn ([], [])
def anew (g : List Int) : List Nat := (na g).2
theorem na_more {g : List Int} {i : Nat} {x : Int} (h : g[i]? = some x) : na (g.take (i + 1)) = naTurn (na (g.take i)) x := by
  unfold na
  rw [take_more h, List.foldl_append]
  rfl
theorem seen_mem (s : List Int) (x : Int) : x ∈ seenStep s x := by
  unfold seenStep
  by_cases h : x ∈ s
  · rw [if_pos h]; exact h
  · rw [if_neg h]; simp
theorem seen_grows : ∀ (r s : List Int), ∃ t, r.foldl seenStep s = s ++ t
  | [], s => ⟨[], by simp⟩
  | x :: r, s => by
    obtain ⟨t, e⟩ := seen_grows r (seenStep s x)
    rw [List.foldl_cons, e]
    unfold seenStep
    by_cases h : x ∈ s
    · rw [if_pos h]; exact ⟨t, rfl⟩
    · rw [if_neg h]; exact ⟨x :: t, by simp⟩
theorem idxOf_takeWhile : ∀ (s t : List Int) (x : Int), x ∈ s → ((s ++ t).takeWhile fun y => y != x).length = s.idxOf x
  | [], t, x, h => by simp at h
  | a :: s, t, x, h => by
    rw [List.cons_append, List.takeWhile_cons, List.idxOf_cons]
    by_cases e : a = x
    · subst e
      simp
    · have h2 : x ∈ s := by
        rcases List.mem_cons.mp h with q | q
        · exact absurd q.symm e
        · exact q
      have e1 : (a != x) = true := by simpa using e
      have e2 : (a == x) = false := by simpa using e
      rw [e1, if_pos rfl, e2, List.length_cons, idxOf_takeWhile s t x h2]
      rfl
theorem na_fold : ∀ (r s : List Int) (o : List Nat), (r.foldl naTurn (s, o)).2 = o ++ r.map fun x => ((r.foldl seenStep s).takeWhile fun y => y != x).length
  | [], s, o => by simp
  | x :: r, s, o => by
    rw [List.foldl_cons, List.foldl_cons]
    show (r.foldl naTurn (seenStep s x, o ++ [(seenStep s x).idxOf x])).2 = _
    rw [na_fold r, List.map_cons, List.append_assoc]
    obtain ⟨t, e⟩ := seen_grows r (seenStep s x)
    rw [e, idxOf_takeWhile _ t x (seen_mem s x)]
    rfl
theorem seen_nat : ∀ (r s : List Nat), (r.map Int.ofNat).foldl seenStep (s.map Int.ofNat) = (r.foldl (fun l x => if l.contains x then l else l ++ [x]) s).map Int.ofNat
  | [], s => rfl
  | x :: r, s => by
    rw [List.map_cons, List.foldl_cons, List.foldl_cons]
    have e : seenStep (s.map Int.ofNat) (Int.ofNat x) = (if s.contains x then s else s ++ [x]).map Int.ofNat := by
      unfold seenStep
      by_cases h : x ∈ s
      · have h2 : Int.ofNat x ∈ s.map Int.ofNat := List.mem_map.mpr ⟨x, h, rfl⟩
        have h3 : s.contains x = true := by simpa using h
        rw [if_pos h2, if_pos h3]
      · have h2 : ¬ Int.ofNat x ∈ s.map Int.ofNat := fun q => by
          obtain ⟨y, hy, e⟩ := List.mem_map.mp q
          have e2 : y = x := Int.ofNat.inj e
          exact h (e2 ▸ hy)
        have h3 : ¬ s.contains x = true := by simpa using h
        rw [if_neg h2, if_neg h3, List.map_append]
        rfl
    rw [e, seen_nat r]
theorem tw_nat (x : Nat) : ∀ s : List Nat, ((s.map Int.ofNat).takeWhile fun y => y != Int.ofNat x).length = (s.takeWhile fun y => y != x).length
  | [] => rfl
  | a :: s => by
    rw [List.map_cons, List.takeWhile_cons, List.takeWhile_cons]
    have e : (Int.ofNat a != Int.ofNat x) = (a != x) := by
      rw [Bool.eq_iff_iff, bne_iff_ne, bne_iff_ne]
      exact not_congr ⟨fun q => Int.ofNat.inj q, fun q => congrArg _ q⟩
    rw [e]
    by_cases h : (a != x) = true
    · rw [if_pos h, if_pos h, List.length_cons, List.length_cons, tw_nat x s]
    · rw [if_neg h, if_neg h]
      rfl
theorem of_toNat : ∀ {g : List Int}, (∀ x ∈ g, 0 ≤ x) → (g.map Int.toNat).map Int.ofNat = g
  | [], _ => rfl
  | a :: g, h => by
    rw [List.map_cons, List.map_cons, of_toNat fun x hx => h x (List.mem_cons_of_mem _ hx)]
    congr 1
    have := h a (List.mem_cons_self ..)
    show ((a.toNat : Nat) : Int) = a
    omega
theorem anew_tidy {g : List Int} (h : ∀ x ∈ g, 0 ≤ x) : anew g = tidy (g.map Int.toNat) := by
  have key : ∀ gn : List Nat, anew (gn.map Int.ofNat) = tidy gn := fun gn => by
    unfold anew na tidy
    rw [na_fold, List.nil_append, List.map_map]
    have e := seen_nat gn []
    rw [List.map_nil] at e
    rw [e]
    show _ = gn.map _
    refine List.map_congr_left fun x _ => ?_
    exact tw_nat x _
  rw [← key, of_toNat h]
theorem na_len : ∀ (r s : List Int) (o : List Nat), (r.foldl naTurn (s, o)).2.length = o.length + r.length
  | [], s, o => rfl
  | x :: r, s, o => by
    rw [List.foldl_cons]
    show (r.foldl naTurn (seenStep s x, o ++ [(seenStep s x).idxOf x])).2.length = _
    rw [na_len r, List.length_append, List.length_cons, List.length_nil, List.length_cons]
    omega
theorem anew_len (g : List Int) : (anew g).length = g.length := by
  unfold anew na
  rw [na_len]
  simp
theorem na_seen_len : ∀ (r s : List Int) (o : List Nat), (r.foldl naTurn (s, o)).1.length ≤ s.length + r.length
  | [], s, o => Nat.le_refl _
  | x :: r, s, o => by
    rw [List.foldl_cons]
    show (r.foldl naTurn (seenStep s x, o ++ [(seenStep s x).idxOf x])).1.length ≤ _
    have h := na_seen_len r (seenStep s x) (o ++ [(seenStep s x).idxOf x])
    have h2 : (seenStep s x).length ≤ s.length + 1 := by
      unfold seenStep
      split
      · omega
      · simp
    rw [List.length_cons]
    omega
theorem na_seen_le (g : List Int) (i : Nat) : (na (g.take i)).1.length ≤ g.length := by
  have h := na_seen_len (g.take i) [] []
  have h2 : (g.take i).length ≤ g.length := by rw [List.length_take]; omega
  show ((g.take i).foldl naTurn ([], [])).1.length ≤ _
  simp at h
  omega
theorem na_out_le (g : List Int) (i : Nat) : (na (g.take i)).2.length ≤ g.length := by
  have h := na_len (g.take i) [] []
  have h2 : (g.take i).length ≤ g.length := by rw [List.length_take]; omega
  show ((g.take i).foldl naTurn ([], [])).2.length ≤ _
  simp at h
  omega
/-- where an item first stands -/
theorem idx_first {s : List Int} {x : Int} (h : x ∈ s) : s[s.idxOf x]? = some x ∧ ∀ m y, m < s.idxOf x → s[m]? = some y → y ≠ x := by
  have hl : s.idxOf x < s.length := List.idxOf_lt_length_iff.mpr h
  refine ⟨by rw [List.getElem?_eq_getElem hl, List.getElem_idxOf hl], fun m y hm hy e => ?_⟩
  subst e
  have h3 := List.not_of_lt_findIdx (p := fun z => z == y) (xs := s) (i := m) hm
  obtain ⟨hm2, e⟩ := List.getElem?_eq_some_iff.mp hy
  rw [e] at h3
  simp at h3

/-! #### how many groups -/
theorem foldl_max_ge : ∀ (l : List Nat) (a : Nat), a ≤ l.foldl max a ∧ ∀ x ∈ l, x ≤ l.foldl max a
  | [], a => ⟨Nat.le_refl _, fun x h => by simp at h⟩
  | y :: l, a => by
    rw [List.foldl_cons]
    obtain ⟨h1, h2⟩ := foldl_max_ge l (max a y)
    refine ⟨by omega, fun x hx => ?_⟩
    rcases List.mem_cons.mp hx with e | q
    · subst e; omega
    · exact h2 x q
theorem foldl_max_mem : ∀ (l : List Nat) (a : Nat), l.foldl max a = a ∨ l.foldl max a ∈ l
  | [], a => .inl rfl
  | y :: l, a => by
    rw [List.foldl_cons]
    rcases foldl_max_mem l (max a y) with e | e
    · rw [e]
      rcases Nat.le_total a y with q | q
      · right; rw [Nat.max_eq_right q]; simp
      · left; exact Nat.max_eq_left q
    · right; exact List.mem_cons_of_mem _ e
def ic (l : List Nat) : List Int := l.map Int.ofNat
theorem max_groups {g : List Nat} {m : Int} (h : m ∈ ic g) (h2 : ∀ y ∈ ic g, y ≤ m) : m + 1 = (groups g : Nat) := by
  obtain ⟨k, hk, rfl⟩ := List.mem_map.mp h
  have a := (foldl_max_ge g 0).2 k hk
  unfold groups
  rcases foldl_max_mem g 0 with e | e
  · rw [e] at a ⊢
    show ((k : Nat) : Int) + 1 = _
    omega
  · have b := h2 _ (List.mem_map.mpr ⟨_, e, rfl⟩)
    have b' : ((g.foldl max 0 : Nat) : Int) ≤ ((k : Nat) : Int) := b
    show ((k : Nat) : Int) + 1 = _
    omega
theorem groups_le {g : List Nat} {n : Nat} (h : ∀ x ∈ g, x < n) (hn : 0 < n) : groups g ≤ n := by
  unfold groups
  rcases foldl_max_mem g 0 with e | e
  · omega
  · have := h _ e
    omega

/-! #### what somebody has -/
/-- with those of group k among the first m -/
def pw (t : Folk) (g : List Nat) (i k m : Nat) : Int := with_ t i ((List.range m).filter fun j => g.getD j 0 == k)
theorem with_more (t : Folk) (i : Nat) (s : List Nat) (j : Nat) : with_ t i (s ++ [j]) = with_ t i s + likes t i j := by
  unfold with_
  rw [List.map_append, List.foldl_append]
  rfl
theorem pw_yes {t : Folk} {g : List Nat} {i k m : Nat} (h : g.getD m 0 = k) : pw t g i k (m + 1) = pw t g i k m + likes t i m := by
  unfold pw
  rw [List.range_succ, List.filter_append, List.filter_cons, if_pos (by simpa using h), List.filter_nil, with_more]
theorem pw_no {t : Folk} {g : List Nat} {i k m : Nat} (h : g.getD m 0 ≠ k) : pw t g i k (m + 1) = pw t g i k m := by
  unfold pw
  rw [List.range_succ, List.filter_append, List.filter_cons, if_neg (by simpa using h), List.filter_nil, List.append_nil]
theorem likes_self (t : Folk) (i : Nat) : likes t i i = 0 := if_pos rfl
theorem likes_ne {t : Folk} {i j : Nat} (h : i ≠ j) : likes t i j = t.v.getD (i * t.n + j) 0 := if_neg h
theorem pw_full (t : Folk) (g : List Nat) (i k : Nat) : pw t g i k g.length = with_ t i (members g k) := rfl
theorem pw_self {t : Folk} {g : List Nat} {i k : Nat} : pw t g i k (i + 1) = pw t g i k i := by
  by_cases h : g.getD i 0 = k
  · rw [pw_yes h, likes_self, Int.add_zero]
  · exact pw_no h
theorem sq_lt {n i j : Nat} (hi : i < n) (hj : j < n) : i * n + j < n * n := by
  have h : (i + 1) * n ≤ n * n := Nat.mul_le_mul_right n hi
  rw [Nat.succ_mul] at h
  omega

/-! #### the whole of worths -/
theorem ic_len (l : List Nat) : (ic l).length = l.length := List.length_map ..
def hasAll (t : Folk) (g : List Nat) (m : Nat) : List Int := (List.range m).map (worth t g)
theorem hasAll_more (t : Folk) (g : List Nat) (m : Nat) : hasAll t g (m + 1) = hasAll t g m ++ [worth t g m] := by
  unfold hasAll
  rw [List.range_succ, List.map_append]
  rfl
theorem hasAll_len (t : Folk) (g : List Nat) (m : Nat) : (hasAll t g m).length = m := by
  unfold hasAll
  rw [List.length_map, List.length_range]
/-- the refusals that come first -/
theorem folk_n {n : Int} {v : List Int} {F : Folk → Ans} (h0 : 0 ≤ n) (h : worthOk n v = false) : folk n.toNat v F = no (-22) := by
  unfold folk
  rw [folk_no h0 h]
theorem folk_y {n : Int} {v : List Int} {F : Folk → Ans} (h : worthOk n v = true) : folk n.toNat v F = F ⟨n.toNat, v⟩ := by
  unfold folk
  rw [folk_ok h]
theorem inG_no1 {n : Int} {v : List Int} {g : List Nat} {F : Folk → Groups → Ans} (h0 : 0 ≤ n) (h : worthOk n v = false) : inGroups n.toNat v g F = no (-22) := folk_n h0 h
theorem inG_no2 {n : Int} {v g : List Int} {F : Folk → Groups → Ans} (h0 : 0 ≤ n) (hg : ∀ x ∈ g, 0 ≤ x) (h : worthOk n v = true) (h2 : groupsOk n g = false) : inGroups n.toNat v (g.map Int.toNat) F = no (-22) := by
  unfold inGroups
  rw [folk_y h, okGroups_eq h0 hg, h2, if_neg (by simp)]
theorem inG_yes {n : Int} {v g : List Int} {F : Folk → Groups → Ans} (h0 : 0 ≤ n) (hg : ∀ x ∈ g, 0 ≤ x) (h : worthOk n v = true) (h2 : groupsOk n g = true) : inGroups n.toNat v (g.map Int.toNat) F = F ⟨n.toNat, v⟩ (anew g) := by
  unfold inGroups
  rw [folk_y h, okGroups_eq h0 hg, h2, if_pos rfl, ← anew_tidy hg]
theorem f_worths {n : Int} {v g : List Int} : PyKs565.worths n v g = Ks565Neutral.out (inGroups n.toNat v (g.map Int.toNat) fun t g => { ret := groups g, out := ic g ++ (List.range n.toNat).map (worth t g) }) := rfl
theorem worths_no1 {n : Int} {v g : List Int} (h0 : 0 ≤ n) (h : worthOk n v = false) : PyKs565.worths n v g = [-22] := by
  rw [f_worths, inG_no1 h0 h]
  rfl
theorem worths_no2 {n : Int} {v g : List Int} (h0 : 0 ≤ n) (hg : ∀ x ∈ g, 0 ≤ x) (h : worthOk n v = true) (h2 : groupsOk n g = false) : PyKs565.worths n v g = [-22] := by
  rw [f_worths, inG_no2 h0 hg h h2]
  rfl
theorem worths_yes {n : Int} {v g : List Int} (h0 : 0 ≤ n) (hg : ∀ x ∈ g, 0 ≤ x) (h : worthOk n v = true) (h2 : groupsOk n g = true) :
    PyKs565.worths n v g = ([(groups (anew g) : Int)] ++ ic (anew g)) ++ hasAll ⟨n.toNat, v⟩ (anew g) n.toNat := by
  rw [f_worths, inG_yes h0 hg h h2]
  rfl
end Rw

namespace Rw
open Ks565
/-! ### The mathematics of moves -/
theorem welcome_iff {t : Folk} {g : List Nat} {i k : Nat} : welcome t g i k = true ↔ ∀ j, j < g.length → g.getD j 0 = k → 0 ≤ likes t j i := by
  unfold welcome members
  rw [List.all_eq_true]
  constructor
  · intro h j hj e
    have := h j (List.mem_filter.mpr ⟨List.mem_range.mpr hj, by simpa using e⟩)
    simpa using this
  · intro h j hj
    obtain ⟨h1, h2⟩ := List.mem_filter.mp hj
    exact decide_eq_true (h j (List.mem_range.mp h1) (by simpa using h2))
theorem letGo_iff {t : Folk} {g : List Nat} {i : Nat} : letGo t g i = true ↔ ∀ j, j < g.length → g.getD j 0 = g.getD i 0 → j ≠ i → likes t j i ≤ 0 := by
  unfold letGo members
  rw [List.all_eq_true]
  constructor
  · intro h j hj e ne
    have := h j (List.mem_filter.mpr ⟨List.mem_range.mpr hj, by simpa using e⟩)
    rw [Bool.or_eq_true, beq_iff_eq, decide_eq_true_iff] at this
    rcases this with q | q
    · exact absurd q ne
    · exact q
  · intro h j hj
    obtain ⟨h1, h2⟩ := List.mem_filter.mp hj
    rw [Bool.or_eq_true, beq_iff_eq, decide_eq_true_iff]
    by_cases e : j = i
    · exact .inl e
    · exact .inr (h j (List.mem_range.mp h1) (by simpa using h2) e)
theorem welcome_no {t : Folk} {g : List Nat} {i k j : Nat} (hj : j < g.length) (e : g.getD j 0 = k) (ne : j ≠ i) (h : t.v.getD (j * t.n + i) 0 < 0) : welcome t g i k = false := by
  rw [← Bool.not_eq_true]
  intro q
  have := welcome_iff.mp q j hj e
  rw [likes_ne ne] at this
  omega
theorem letGo_no {t : Folk} {g : List Nat} {i j : Nat} (hj : j < g.length) (e : g.getD j 0 = g.getD i 0) (ne : j ≠ i) (h : 0 < t.v.getD (j * t.n + i) 0) : letGo t g i = false := by
  rw [← Bool.not_eq_true]
  intro q
  have := letGo_iff.mp q j hj e ne
  rw [likes_ne ne] at this
  omega
theorem rather_iff {t : Folk} {g : List Nat} {i k : Nat} (hk : k ≤ groups g) : rather t g i k = true ↔ ¬ with_ t i (members g k) ≤ with_ t i (members g (g.getD i 0)) := by
  unfold rather worth
  rw [Bool.and_eq_true, Bool.and_eq_true, bne_iff_ne, decide_eq_true_iff, decide_eq_true_iff]
  constructor
  · rintro ⟨_, h⟩
    omega
  · intro h
    refine ⟨⟨fun e => h ?_, hk⟩, by omega⟩
    rw [e]
    exact Int.le_refl _
theorem may_no1 {t : Folk} {w : Nat} {g : List Nat} {i k : Nat} (hk : k ≤ groups g) (h : with_ t i (members g k) ≤ with_ t i (members g (g.getD i 0))) : may t w g i k = false := by
  have e : rather t g i k = false := by
    rw [← Bool.not_eq_true]
    intro q
    exact (rather_iff hk).mp q h
  unfold may
  rw [e]
  rfl
theorem not_own {t : Folk} {g : List Nat} {i k : Nat} (h : ¬ with_ t i (members g k) ≤ with_ t i (members g (g.getD i 0))) : g.getD i 0 ≠ k := fun e => h (by rw [e]; exact Int.le_refl _)
theorem may_no2 {t : Folk} {w : Nat} {g : List Nat} {i k : Nat} (hw : 1 ≤ w) (h : welcome t g i k = false) : may t w g i k = false := by
  unfold may
  rw [h]
  have e : (w == 0) = false := by simp; omega
  rw [e, Bool.or_false, Bool.and_false]
  rfl
theorem may_no3 {t : Folk} {w : Nat} {g : List Nat} {i k : Nat} (hw : w = 2) (h : letGo t g i = false) : may t w g i k = false := by
  unfold may
  rw [h, hw]
  simp
theorem may_yes {t : Folk} {w : Nat} {g : List Nat} {i k : Nat} (hk : k ≤ groups g) (h : ¬ with_ t i (members g k) ≤ with_ t i (members g (g.getD i 0))) (h1 : 1 ≤ w → welcome t g i k = true) (h2 : 2 ≤ w → letGo t g i = true) : may t w g i k = true := by
  unfold may
  rw [(rather_iff hk).mpr h, Bool.true_and, Bool.and_eq_true, Bool.or_eq_true, Bool.or_eq_true]
  refine ⟨?_, ?_⟩
  · by_cases e : w = 0
    · left; rw [e]; rfl
    · exact .inr (h1 (by omega))
  · by_cases e : w = 2
    · exact .inr (h2 (by omega))
    · left
      simpa using e
/-- the moves of one person to the first K groups; of the first m persons -/
def mvs (t : Folk) (w : Nat) (g : List Nat) (i K : Nat) : List (Nat × Nat) := ((List.range K).filter fun k => may t w g i k).map fun k => (i, k)
def upTo (t : Folk) (w : Nat) (g : List Nat) (m : Nat) : List (Nat × Nat) := (List.range m).flatMap fun i => mvs t w g i (groups g + 1)
def enc (l : List (Nat × Nat)) : List Int := l.flatMap fun p => [(p.1 : Int), (p.2 : Int)]
theorem mvs_yes {t : Folk} {w : Nat} {g : List Nat} {i K : Nat} (h : may t w g i K = true) : mvs t w g i (K + 1) = mvs t w g i K ++ [(i, K)] := by
  unfold mvs
  rw [List.range_succ, List.filter_append, List.filter_cons, if_pos h, List.filter_nil, List.map_append]
  rfl
theorem mvs_no {t : Folk} {w : Nat} {g : List Nat} {i K : Nat} (h : may t w g i K = false) : mvs t w g i (K + 1) = mvs t w g i K := by
  unfold mvs
  rw [List.range_succ, List.filter_append, List.filter_cons, if_neg (by simp [h]), List.filter_nil, List.append_nil]
theorem upTo_more (t : Folk) (w : Nat) (g : List Nat) (m : Nat) : upTo t w g (m + 1) = upTo t w g m ++ mvs t w g m (groups g + 1) := by
  unfold upTo
  rw [List.range_succ, List.flatMap_append, List.flatMap_cons, List.flatMap_nil, List.append_nil]
theorem enc_app (a b : List (Nat × Nat)) : enc (a ++ b) = enc a ++ enc b := List.flatMap_append ..
theorem enc_len : ∀ l : List (Nat × Nat), (enc l).length = 2 * l.length
  | [] => rfl
  | x :: l => by
    have e : enc (x :: l) = [(x.1 : Int), (x.2 : Int)] ++ enc l := rfl
    rw [e]
    simp only [List.length_append, enc_len l, List.length_cons, List.length_nil]
    omega
theorem mvs_len (t : Folk) (w : Nat) (g : List Nat) (i K : Nat) : (mvs t w g i K).length ≤ K := by
  unfold mvs
  rw [List.length_map]
  have h := List.length_filter_le (fun k => may t w g i k) (List.range K)
  rw [List.length_range] at h
  exact h
theorem upTo_len (t : Folk) (w : Nat) (g : List Nat) : ∀ m : Nat, (upTo t w g m).length ≤ m * (groups g + 1)
  | 0 => Nat.zero_le _
  | m + 1 => by
    rw [upTo_more, List.length_append, Nat.succ_mul]
    have h1 := upTo_len t w g m
    have h2 := mvs_len t w g m (groups g + 1)
    omega
/-- no number is above how many persons there are -/
theorem fold_seen_len : ∀ (r s : List Int), (r.foldl seenStep s).length ≤ s.length + r.length
  | [], s => Nat.le_refl _
  | x :: r, s => by
    rw [List.foldl_cons]
    have h := fold_seen_len r (seenStep s x)
    have h2 : (seenStep s x).length ≤ s.length + 1 := by
      unfold seenStep
      split
      · omega
      · simp
    rw [List.length_cons]
    omega
theorem anew_le (g : List Int) : ∀ y ∈ anew g, y ≤ g.length := by
  intro y hy
  unfold anew na at hy
  rw [na_fold, List.nil_append] at hy
  obtain ⟨x, _, rfl⟩ := List.mem_map.mp hy
  have h1 := fold_seen_len g []
  have h2 := (List.takeWhile_prefix (fun y => y != x) (l := g.foldl seenStep [])).length_le
  simp at h1
  omega
theorem groups_anew (g : List Int) : groups (anew g) ≤ g.length + 1 := groups_le (fun x hx => Nat.lt_succ_of_le (anew_le g x hx)) (Nat.succ_pos _)
theorem f_moves {n w : Int} {v g : List Int} : PyKs565.moves n w v g = Ks565Neutral.out (inGroups n.toNat v (g.map Int.toNat) fun t g => if 2 < w.toNat then no (-22) else { ret := (moves t w.toNat g).length, out := enc (moves t w.toNat g) }) := rfl
theorem moves_no1 {n w : Int} {v g : List Int} (h0 : 0 ≤ n) (h : worthOk n v = false) : PyKs565.moves n w v g = [-22] := by
  rw [f_moves, inG_no1 h0 h]
  rfl
theorem moves_no2 {n w : Int} {v g : List Int} (h0 : 0 ≤ n) (hg : ∀ x ∈ g, 0 ≤ x) (h : worthOk n v = true) (h2 : groupsOk n g = false) : PyKs565.moves n w v g = [-22] := by
  rw [f_moves, inG_no2 h0 hg h h2]
  rfl
theorem moves_no3 {n w : Int} {v g : List Int} (h0 : 0 ≤ n) (hg : ∀ x ∈ g, 0 ≤ x) (h : worthOk n v = true) (h2 : groupsOk n g = true) (hw : 2 < w) : PyKs565.moves n w v g = [-22] := by
  rw [f_moves, inG_yes h0 hg h h2, if_pos (by omega)]
  rfl
theorem moves_yes {n w : Int} {v g : List Int} (h0 : 0 ≤ n) (hg : ∀ x ∈ g, 0 ≤ x) (h : worthOk n v = true) (h2 : groupsOk n g = true) (hw : ¬ 2 < w) :
    PyKs565.moves n w v g = [((upTo ⟨n.toNat, v⟩ w.toNat (anew g) n.toNat).length : Int)] ++ enc (upTo ⟨n.toNat, v⟩ w.toNat (anew g) n.toNat) := by
  rw [f_moves, inG_yes h0 hg h h2, if_neg (by omega)]
  rfl
end Rw

namespace Rw
open Ks565
/-! ### The mathematics of go -/
theorem seen_keeps : ∀ (r s : List Int) (x : Int), x ∈ s → x ∈ r.foldl seenStep s := fun r s x h => by
  obtain ⟨t, e⟩ := seen_grows r s
  rw [e]
  exact List.mem_append_left _ h
theorem seen_all : ∀ (r s : List Int) (x : Int), x ∈ r → x ∈ r.foldl seenStep s
  | [], s, x, h => by simp at h
  | y :: r, s, x, h => by
    rw [List.foldl_cons]
    rcases List.mem_cons.mp h with e | q
    · subst e
      exact seen_keeps r _ x (seen_mem s x)
    · exact seen_all r _ x q
theorem anew_map (g : List Int) : anew g = g.map fun x => (g.foldl seenStep []).idxOf x := by
  unfold anew na
  rw [na_fold, List.nil_append]
  refine List.map_congr_left fun x hx => ?_
  have h := idxOf_takeWhile (g.foldl seenStep []) [] x (seen_all g [] x hx)
  rw [List.append_nil] at h
  exact h
theorem anew_get {g : List Int} {i : Nat} (h : i < g.length) : (anew g).getD i 0 = (g.foldl seenStep []).idxOf (g.getD i 0) := by
  refine getD_some ?_
  rw [anew_map, List.getElem?_map, some_getD 0 h]
  rfl
theorem anew_inj {g : List Int} {i j : Nat} (hi : i < g.length) (hj : j < g.length) : (anew g).getD i 0 = (anew g).getD j 0 ↔ g.getD i 0 = g.getD j 0 := by
  rw [anew_get hi, anew_get hj]
  constructor
  · intro h
    have mi : g.getD i 0 ∈ g.foldl seenStep [] := seen_all g [] _ (List.mem_of_getElem? (some_getD 0 hi))
    have mj : g.getD j 0 ∈ g.foldl seenStep [] := seen_all g [] _ (List.mem_of_getElem? (some_getD 0 hj))
    have e1 := (idx_first mi).1
    have e2 := (idx_first mj).1
    rw [h, e2] at e1
    exact (Option.some.inj e1).symm
  · intro h
    rw [h]
theorem pw_same {t : Folk} {g g' : List Nat} {i k k' : Nat} : ∀ m : Nat, (∀ j, j < m → j ≠ i → (g.getD j 0 = k ↔ g'.getD j 0 = k')) → pw t g i k m = pw t g' i k' m
  | 0, _ => rfl
  | m + 1, h => by
    have ih := pw_same (t := t) m fun j hj => h j (by omega)
    by_cases e : m = i
    · subst e
      rw [pw_self, pw_self, ih]
    · have q := h m (by omega) e
      by_cases c : g.getD m 0 = k
      · rw [pw_yes c, pw_yes (q.mp c), ih]
      · rw [pw_no c, pw_no (fun z => c (q.mpr z)), ih]
theorem ic_getD {g : List Nat} {i : Nat} : (ic g).getD i 0 = ((g.getD i 0 : Nat) : Int) := by
  unfold ic
  rw [List.getD_eq_getElem?_getD, List.getD_eq_getElem?_getD, List.getElem?_map]
  cases g[i]? <;> rfl
theorem ic_nat (g : List Nat) : (ic g).map Int.toNat = g := by
  unfold ic
  rw [List.map_map]
  have : (Int.toNat ∘ Int.ofNat) = id := by
    funext x
    rfl
  rw [this, List.map_id]
theorem ic_pos {g : List Nat} : ∀ x ∈ ic g, 0 ≤ x := fun x hx => by
  obtain ⟨y, _, rfl⟩ := List.mem_map.mp hx
  exact Int.natCast_nonneg y
theorem anew_ic (g : List Nat) : anew (ic g) = tidy g := by
  rw [anew_tidy ic_pos, ic_nat]
theorem go_has {t : Folk} {g : List Nat} {i k : Nat} (hi : i < g.length) : worth t (go g i k) i = with_ t i (members g k) := by
  have hl : (go g i k).length = g.length := by
    unfold go
    rw [← anew_ic, anew_len, ic_len, List.length_set]
  unfold worth
  rw [← pw_full, ← pw_full, hl]
  refine (pw_same g.length fun j hj ne => ?_).symm
  unfold go
  have hi' : i < (ic (g.set i k)).length := by rw [ic_len, List.length_set]; exact hi
  have hj' : j < (ic (g.set i k)).length := by rw [ic_len, List.length_set]; exact hj
  rw [← anew_ic, anew_inj hj' hi', ic_getD, ic_getD]
  have e1 : (g.set i k).getD i 0 = k := by
    rw [List.getD_eq_getElem?_getD, List.getElem?_set_self hi]
    rfl
  have e2 : (g.set i k).getD j 0 = g.getD j 0 := by
    rw [List.getD_eq_getElem?_getD, List.getD_eq_getElem?_getD, List.getElem?_set_ne (Ne.symm ne)]
  rw [e1, e2]
  omega
theorem set_cut {g : List Nat} {i k : Nat} (hi : i < g.length) : ((ic g).take i ++ [(k : Int)]) ++ (ic g).drop (i + 1) = ic (g.set i k) := by
  unfold ic
  rw [List.set_eq_take_append_cons_drop, if_pos hi, List.map_append, List.map_cons, List.map_take, List.map_drop, List.append_assoc]
  rfl
theorem f_go {n i k : Int} {v g : List Int} : PyKs565.go n i k v g = Ks565Neutral.out (inGroups n.toNat v (g.map Int.toNat) fun t g => if n.toNat ≤ i.toNat ∨ groups g < k.toNat then no (-2) else { ret := if rather t g i.toNat k.toNat then 1 else 0, out := ic (go g i.toNat k.toNat) ++ [worth t (go g i.toNat k.toNat) i.toNat] }) := rfl
theorem go_no1 {n i k : Int} {v g : List Int} (h0 : 0 ≤ n) (h : worthOk n v = false) : PyKs565.go n i k v g = [-22] := by
  rw [f_go, inG_no1 h0 h]
  rfl
theorem go_no2 {n i k : Int} {v g : List Int} (h0 : 0 ≤ n) (hg : ∀ x ∈ g, 0 ≤ x) (h : worthOk n v = true) (h2 : groupsOk n g = false) : PyKs565.go n i k v g = [-22] := by
  rw [f_go, inG_no2 h0 hg h h2]
  rfl
theorem go_no3 {n i k : Int} {v g : List Int} (h0 : 0 ≤ n) (hg : ∀ x ∈ g, 0 ≤ x) (h : worthOk n v = true) (h2 : groupsOk n g = true) (h3 : n ≤ i ∨ (groups (anew g) : Int) < k) : PyKs565.go n i k v g = [-2] := by
  rw [f_go, inG_yes h0 hg h h2, if_pos (by omega)]
  rfl
theorem go_yes {n i k : Nat} {v g : List Int} (hg : ∀ x ∈ g, 0 ≤ x) (h : worthOk n v = true) (h2 : groupsOk n g = true) (hi : i < n) (hk : k ≤ groups (anew g)) :
    PyKs565.go n i k v g = ([if decide (with_ ⟨n, v⟩ i (members (anew g) ((anew g).getD i 0)) < with_ ⟨n, v⟩ i (members (anew g) k)) then (1 : Int) else 0] ++ ic (anew (ic ((anew g).set i k)))) ++ [with_ ⟨n, v⟩ i (members (anew g) k)] := by
  have h0 : (0 : Int) ≤ (n : Nat) := by omega
  have hl := groupsOk_says h2
  have hal : (anew g).length = n := by rw [anew_len]; omega
  have e : ∀ m : Nat, ((m : Nat) : Int).toNat = m := fun m => by omega
  rw [f_go, inG_yes h0 hg h h2, e, e, e, if_neg (by omega), anew_ic, go_has (by omega)]
  have er : rather ⟨n, v⟩ (anew g) i k = decide (with_ ⟨n, v⟩ i (members (anew g) ((anew g).getD i 0)) < with_ ⟨n, v⟩ i (members (anew g) k)) := by
    rw [Bool.eq_iff_iff, rather_iff hk, decide_eq_true_iff]
    omega
  rw [er]
  rfl
end Rw

namespace Rw
open Ks565
/-! ### The mathematics of rests -/
def stepRow (g : List Nat) (K : Nat) : List (List Nat) := (List.range K).map fun x => g ++ [x]
def wayStep (G : List (List Nat)) : List (List Nat) := G.flatMap fun g => stepRow g (groups g + 1)
theorem stepRow_more (g : List Nat) (K : Nat) : stepRow g (K + 1) = stepRow g K ++ [g ++ [K]] := by
  unfold stepRow
  rw [List.range_succ, List.map_append]
  rfl
theorem stepRow_len (g : List Nat) (K : Nat) : (stepRow g K).length = K := by
  unfold stepRow
  rw [List.length_map, List.length_range]
theorem wayStep_more {G : List (List Nat)} {i : Nat} {g : List Nat} (h : G[i]? = some g) : wayStep (G.take (i + 1)) = wayStep (G.take i) ++ stepRow g (groups g + 1) := by
  unfold wayStep
  rw [take_more h, List.flatMap_append, List.flatMap_cons, List.flatMap_nil, List.append_nil]
theorem wayStep_len : ∀ G : List (List Nat), (∀ g ∈ G, groups g ≤ 6) → (wayStep G).length ≤ G.length * 7
  | [], _ => Nat.le_refl _
  | g :: G, h => by
    have ih := wayStep_len G fun x hx => h x (List.mem_cons_of_mem _ hx)
    have hg := h g (List.mem_cons_self ..)
    have e : wayStep (g :: G) = stepRow g (groups g + 1) ++ wayStep G := rfl
    rw [e, List.length_append, stepRow_len, List.length_cons, Nat.succ_mul]
    omega
theorem all_step : ∀ m, m < 5 → 1 ≤ m → Ks565.all (m + 1) = wayStep (Ks565.all m) := by decide +kernel
theorem all_few : ∀ m, m < 6 → (Ks565.all m).length ≤ 52 ∧ ∀ g ∈ Ks565.all m, g.length = m ∧ groups g ≤ 6 := by decide +kernel
theorem rests_upTo {t : Folk} {w : Nat} {g : List Nat} : rests t w g = decide ((upTo t w g t.n).length = 0) := by
  show (upTo t w g t.n).isEmpty = _
  cases upTo t w g t.n <;> rfl
def atRest (t : Folk) (w : Nat) (G : List (List Nat)) : List (List Nat) := G.filter fun g => decide ((upTo t w g t.n).length = 0)
theorem atRest_yes {t : Folk} {w : Nat} {G : List (List Nat)} {i : Nat} {g : List Nat} (h : G[i]? = some g) (c : (upTo t w g t.n).length = 0) : atRest t w (G.take (i + 1)) = atRest t w (G.take i) ++ [g] := by
  unfold atRest
  rw [take_more h, List.filter_append, List.filter_cons, if_pos (decide_eq_true c), List.filter_nil]
theorem atRest_no {t : Folk} {w : Nat} {G : List (List Nat)} {i : Nat} {g : List Nat} (h : G[i]? = some g) (c : (upTo t w g t.n).length ≠ 0) : atRest t w (G.take (i + 1)) = atRest t w (G.take i) := by
  unfold atRest
  rw [take_more h, List.filter_append, List.filter_cons, if_neg (by rw [decide_eq_true_iff]; exact c), List.filter_nil, List.append_nil]
theorem atRest_len (t : Folk) (w : Nat) (G : List (List Nat)) : (atRest t w G).length ≤ G.length := List.length_filter_le _ _
theorem f_rests {n w : Int} {v : List Int} : PyKs565.rests n w v = Ks565Neutral.out (folk n.toNat v fun t => if 2 < w.toNat then no (-22) else
    { ret := ((Ks565.all n.toNat).filter (rests t w.toNat)).length, out := ic (((Ks565.all n.toNat).filter (rests t w.toNat)).headD []) }) := rfl
theorem rests_no1 {n w : Int} {v : List Int} (h0 : 0 ≤ n) (h : worthOk n v = false) : PyKs565.rests n w v = [-22] := by
  rw [f_rests, folk_n h0 h]
  rfl
theorem rests_no2 {n w : Int} {v : List Int} (h : worthOk n v = true) (h2 : 2 < w) : PyKs565.rests n w v = [-22] := by
  rw [f_rests, folk_y h, if_pos (by omega)]
  rfl
theorem rests_yes {n w : Int} {v : List Int} (h : worthOk n v = true) (h2 : ¬ 2 < w) :
    PyKs565.rests n w v = [(((atRest ⟨n.toNat, v⟩ w.toNat (Ks565.all n.toNat)).length : Nat) : Int)] ++ ic ((atRest ⟨n.toNat, v⟩ w.toNat (Ks565.all n.toNat)).headD []) := by
  rw [f_rests, folk_y h, if_neg (by omega)]
  have e : (Ks565.all n.toNat).filter (rests ⟨n.toNat, v⟩ w.toNat) = atRest ⟨n.toNat, v⟩ w.toNat (Ks565.all n.toNat) := by
    unfold atRest
    congr 1
    funext g
    exact rests_upTo
  rw [e]
  rfl
end Rw

namespace Rw
open Ks565
/-! ### The mathematics of best -/
def bw (t : Folk) (g : List Nat) (i k : Nat) : Int := with_ t i (members g k)
def bestStep (t : Folk) (g : List Nat) (i b k : Nat) : Nat := if k != g.getD i 0 && decide (bw t g i b < bw t g i k) then k else b
/-- the best of one's own and the first m -/
def bestTo (t : Folk) (g : List Nat) (i m : Nat) : Nat := (List.range m).foldl (bestStep t g i) (g.getD i 0)
theorem bestTo_more (t : Folk) (g : List Nat) (i m : Nat) : bestTo t g i (m + 1) = bestStep t g i (bestTo t g i m) m := by
  unfold bestTo
  rw [List.range_succ, List.foldl_append]
  rfl
theorem bestTo_own (t : Folk) (g : List Nat) (i : Nat) : ∀ m, bw t g i (g.getD i 0) ≤ bw t g i (bestTo t g i m)
  | 0 => Int.le_refl _
  | m + 1 => by
    have ih := bestTo_own t g i m
    rw [bestTo_more]
    unfold bestStep
    split
    · rename_i h
      rw [Bool.and_eq_true, decide_eq_true_iff] at h
      have := h.2
      omega
    · exact ih
theorem bestTo_yes {t : Folk} {g : List Nat} {i m : Nat} (h : bw t g i (bestTo t g i m) < bw t g i m) : bestTo t g i (m + 1) = m := by
  have ho := bestTo_own t g i m
  have hne : m ≠ g.getD i 0 := fun e => by
    rw [← e] at ho
    omega
  rw [bestTo_more]
  unfold bestStep
  rw [if_pos]
  rw [Bool.and_eq_true, decide_eq_true_iff, bne_iff_ne]
  exact ⟨hne, h⟩
theorem bestTo_no {t : Folk} {g : List Nat} {i m : Nat} (h : ¬ bw t g i (bestTo t g i m) < bw t g i m) : bestTo t g i (m + 1) = bestTo t g i m := by
  rw [bestTo_more]
  unfold bestStep
  rw [if_neg]
  rw [Bool.and_eq_true, decide_eq_true_iff]
  exact fun q => h q.2
theorem f_best {n i : Int} {v g : List Int} : PyKs565.best n i v g = Ks565Neutral.out (inGroups n.toNat v (g.map Int.toNat) fun t g => if n.toNat ≤ i.toNat then no (-2) else
    { ret := ((bestTo t g i.toNat (groups g + 1) : Nat) : Int), out := [bw t g i.toNat (bestTo t g i.toNat (groups g + 1))] }) := rfl
theorem best_no1 {n i : Int} {v g : List Int} (h0 : 0 ≤ n) (h : worthOk n v = false) : PyKs565.best n i v g = [-22] := by
  rw [f_best, inG_no1 h0 h]
  rfl
theorem best_no2 {n i : Int} {v g : List Int} (h0 : 0 ≤ n) (hg : ∀ x ∈ g, 0 ≤ x) (h : worthOk n v = true) (h2 : groupsOk n g = false) : PyKs565.best n i v g = [-22] := by
  rw [f_best, inG_no2 h0 hg h h2]
  rfl
theorem best_no3 {n i : Int} {v g : List Int} (h0 : 0 ≤ n) (hg : ∀ x ∈ g, 0 ≤ x) (h : worthOk n v = true) (h2 : groupsOk n g = true) (hi : n ≤ i) : PyKs565.best n i v g = [-2] := by
  rw [f_best, inG_yes h0 hg h h2, if_pos (by omega)]
  rfl
theorem best_yes {n i : Nat} {v g : List Int} (hg : ∀ x ∈ g, 0 ≤ x) (h : worthOk n v = true) (h2 : groupsOk n g = true) (hi : i < n) :
    PyKs565.best n i v g = [((bestTo ⟨n, v⟩ (anew g) i (groups (anew g) + 1) : Nat) : Int), bw ⟨n, v⟩ (anew g) i (bestTo ⟨n, v⟩ (anew g) i (groups (anew g) + 1))] := by
  rw [f_best, inG_yes (by omega) hg h h2, if_neg (by omega)]
  rfl
/-! ### The mathematics of all_ways -/
theorem f_all {n : Int} : PyKs565.all_ways n = Ks565Neutral.out (if n.toNat < 1 ∨ PEOPLE < n.toNat then no (-22) else no ((Ks565.all n.toNat).length : Nat)) := rfl
theorem all_no {n : Int} (h0 : 0 ≤ n) (h : peopleOk n = false) : PyKs565.all_ways n = [-22] := by
  rw [f_all, if_pos]
  · rfl
  · have e : PEOPLE = 5 := rfl
    rw [e]
    rcases peopleOk_not h with q | q
    · exact .inl (by omega)
    · exact .inr (by omega)
theorem all_yes {n : Nat} (h1 : 1 ≤ n) (h5 : n ≤ 5) : PyKs565.all_ways n = [(((Ks565.all n).length : Nat) : Int)] := by
  have e : PEOPLE = 5 := rfl
  rw [f_all, if_neg (by rw [e]; omega)]
  rfl
end Rw

namespace Rw
open PySem PySem.Spec PyProof.Rows L2
/-! ### the program's text by places; what its top has written -/
def topAt (i : Nat) : Stmt := PySem.Challenge.pw_ratherwhere_s06_all_ways.main.body.getD i (.Pass ⟨0, 0, 0, 0⟩)
abbrev s_people_are_told : Stmt := topAt 3
abbrev s_how_many : Stmt := topAt 4
abbrev s_ways_to_be : Stmt := topAt 5
abbrev s_all_ways : Stmt := topAt 6
structure Txt (mg : Str → Option Value) : Prop where
  c_NOT_AS_TOLD : ∃ t, mg "NOT_AS_TOLD" = some (.int (-22) t)
  c_MOST_PEOPLE : ∃ t, mg "MOST_PEOPLE" = some (.int 5 t)
  b_len : mg "len" = none
  b_range : mg "range" = none
  b_max : mg "max" = none
structure Def (K : PySem.W.Frag) (mg : Str → Option Value) (x : Str) (st : Stmt) (ps : List Str) (f : Addr) (fd : FuncData) : Prop where
  fn : Fun K x x st f fd
  gl : mg x = some (.ref f)
  bd : Binds K fd ps []
end Rw
namespace Rw
open PySem PySem.Spec PyProof.Rows L2
open PySem.W (Codec)
/-! ### small words for the readings -/
theorem ift {c : Bool} {A B : Prop} (hc : c = true) (h : A) : if c = true then A else B := by
  subst hc
  exact iteT h
theorem iff_ {c : Bool} {A B : Prop} (hc : c = false) (h : B) : if c = true then A else B := by
  subst hc
  exact iteF h
theorem neT {i j : Int} (h : i ≠ j) : (!decide (V.int i = V.int j)) = true := by
  rw [decide_eq_false (fun q => h (V.int.inj q))]
  rfl
theorem neF {i j : Int} (h : i = j) : (!decide (V.int i = V.int j)) = false := by
  rw [decide_eq_true (congrArg V.int h)]
  rfl
theorem eqT {i j : Int} (h : i = j) : decide (V.int i = V.int j) = true := decide_eq_true (congrArg V.int h)
theorem eqF {i j : Int} (h : i ≠ j) : decide (V.int i = V.int j) = false := decide_eq_false fun q => h (V.int.inj q)
theorem map_at {l : List Int} {i : Nat} {y : V} (h : (l.map V.int)[i]? = some y) : ∃ x, l[i]? = some x ∧ y = V.int x := by
  rw [List.getElem?_map] at h
  cases e : l[i]? with
  | none =>
    rw [e] at h
    cases h
  | some x =>
    rw [e] at h
    exact ⟨x, rfl, (Option.some.inj h).symm⟩
theorem at_map {l : List Int} {i : Nat} {x : Int} (h : l[i]? = some x) : (l.map V.int)[i]? = some (V.int x) := by
  rw [List.getElem?_map, h]
  rfl
theorem at_ic {l : List Nat} {i : Nat} (h : i < l.length) : ((ic l).map V.int)[i]? = some (V.int ((l.getD i 0 : Nat) : Int)) := by
  refine at_map ?_
  unfold ic
  rw [List.getElem?_map, some_getD 0 h]
  rfl
theorem at_v {l : List Int} {i : Nat} (h : i < l.length) : (l.map V.int)[i]? = some (V.int (l.getD i 0)) := at_map (some_getD 0 h)
theorem flat_ints : ∀ l : List Int, (l.map V.int).all flatV = true
  | [] => rfl
  | x :: r => by
    rw [List.map_cons, List.all_cons, flat_ints r]
    rfl
theorem inV_ints (x : Int) : ∀ l : List Int, inV (V.int x) (l.map V.int) = decide (x ∈ l)
  | [] => by
    rw [decide_eq_false (by simp)]
    rfl
  | y :: r => by
    have ih := inV_ints x r
    unfold inV at ih ⊢
    rw [List.map_cons, List.any_cons, ih, Bool.eq_iff_iff, Bool.or_eq_true, decide_eq_true_iff, decide_eq_true_iff, List.mem_cons]
    show ((y == x) = true ∨ x ∈ r) ↔ _
    rw [beq_iff_eq]
    exact ⟨fun q => q.elim (fun e => .inl e.symm) .inr, fun q => q.elim (fun e => .inl e.symm) .inr⟩
theorem few {α : Type} {l : List α} {n : Nat} (h : l.length ≤ n) (h2 : n ≤ 1000) : (l).length < sizeLine := small1000 (Nat.le_trans h h2)
theorem sm_new {H : Hp} {p : Addr} {o : HO} (h : H p = none) : Same H (upd H p o) := fun c q e => by
  rw [upd_ne (ne_of_none e h)]
  exact e
theorem cut_to {xs : List V} {i : Nat} (h : i ≤ xs.length) : cutV xs none (some ((i : Nat) : Int)) = xs.take i := by
  unfold cutV
  rw [HT.sIx_none, HT.sIx_nat, Nat.min_eq_left h]
  rfl
theorem cut_from {xs : List V} {i : Nat} (h : i ≤ xs.length) : cutV xs (some ((i : Nat) : Int)) none = xs.drop i := by
  unfold cutV
  rw [HT.sIx_none, HT.sIx_nat, Nat.min_eq_left h]
  exact List.take_of_length_le (by rw [List.length_drop]; exact Nat.le_refl _)
theorem map_len {l : List Int} : (l.map V.int).length = l.length := List.length_map ..
end Rw

namespace Rw
open PySem PySem.Spec PyProof.Rows L2
open PySem.W (Codec)
/-! ### people_are_told -/
def spPT : Sp := fun vs H Q _ => ∃ n : Int, vs = [.int n] ∧ Q (.bl (peopleOk n)) H
section
variable {P : Program} {w : World} {K : PySem.W.Frag} {mg : Str → Option Value} {base : Heap}
theorem scPT : FnScope ["n"] ["n"] (defScope s_people_are_told) := ⟨rfl, rfl, rfl, by decide +kernel, rfl, by decide +kernel, by decide +kernel⟩
theorem ok_people_are_told {f : Addr} {fd : FuncData} (F : Fun K "people_are_told" "people_are_told" s_people_are_told f fd) (T : Txt mg) : FnOk P w K mg base CX0 1 f fd ["n"] spPT := by
  obtain ⟨t1, g1⟩ := T.c_MOST_PEOPLE
  refine F.ok scPT (fun vs H Q E h => ?_) (fun cdv A outer s H vs Q E hr h => ?_)
  · obtain ⟨n, rfl, _⟩ := h
    rfl
  · obtain ⟨n, rfl, k⟩ := h
    refine ⟨_, pss_one (ps_ret (pe_and (pe_cmpR op_ge (pv 0) pe_int (nomark _)) (pe_one (pe_cmpR op_le (pv 0) (pe_glob (v := .int 5) rfl g1 ⟨_, rfl⟩) (nomark _))))), ?_⟩
    refine ⟨_, rfl, _, _, rfl, rfl, _, rfl, ?_⟩
    by_cases c1 : 1 ≤ n
    · refine ift (decide_eq_true c1) ?_
      rw [peopleOk_hi c1] at k
      exact ⟨_, rfl, _, _, rfl, rfl, k⟩
    · refine iff_ (decide_eq_false c1) ?_
      rw [peopleOk_lo c1] at k
      exact k
end
end Rw

namespace Rw
open PySem PySem.Spec PyProof.Rows L2
open PySem.W (Codec)
/-! ### how_many -/
def spHM (K : PySem.W.Frag) : Sp := fun vs H Q _ => ∃ (p : Addr) (g : List Nat), vs = [.ref p] ∧ SqL K H p ((ic g).map V.int) ∧ 0 < g.length ∧ Q (.int ((Ks565.groups g : Nat) : Int)) H
section
variable {P : Program} {w : World} {K : PySem.W.Frag} {mg : Str → Option Value} {base : Heap}
theorem scHM : FnScope ["numbered"] ["numbered"] (defScope s_how_many) := ⟨rfl, rfl, rfl, by decide +kernel, rfl, by decide +kernel, by decide +kernel⟩
theorem ok_how_many {f : Addr} {fd : FuncData} (F : Fun K "how_many" "how_many" s_how_many f fd) (T : Txt mg) : FnOk P w K mg base CX0 1 f fd ["numbered"] (spHM K) := by
  refine F.ok scHM (fun vs H Q E h => ?_) (fun cdv A outer s H vs Q E hr h => ?_)
  · obtain ⟨p, g, rfl, _⟩ := h
    rfl
  · obtain ⟨p, g, rfl, hg, hlen, k⟩ := h
    refine ⟨_, pss_one (ps_ret (pe_op op_add (pe_callB (cr_max rfl) (by rfl) T.b_max (by decide +kernel) (pa_cons (pv 0) pa_nil)) pe_int)), ?_⟩
    refine ⟨_, rfl, p, ic g, rfl, hg, (by rw [ic_len]; exact hlen), fun m hm hy => ⟨_, _, rfl, rfl, ?_⟩⟩
    rw [← max_groups hm hy] at k
    exact k
end
end Rw

namespace Rw
open PySem PySem.Spec PyProof.Rows L2
open PySem.W (Codec)
/-! ### ways_to_be: lists within a list -/
/-- x is a list of its own (not D) that holds g -/
def Row (H : Hp) (D : Addr) (x : V) (g : List Nat) : Prop := ∃ q, x = .ref q ∧ q ≠ D ∧ H q = some (.lst ((ic g).map V.int))
def Rows (H : Hp) (D : Addr) : List V → List (List Nat) → Prop
  | [], [] => True
  | x :: xs, g :: gs => Row H D x g ∧ Rows H D xs gs
  | [], _ :: _ => False
  | _ :: _, [] => False
theorem Rows.len {H : Hp} {D : Addr} : ∀ {L : List V} {G : List (List Nat)}, Rows H D L G → L.length = G.length
  | [], [], _ => rfl
  | x :: xs, g :: gs, h => by
    rw [List.length_cons, List.length_cons, Rows.len h.2]
  | [], _ :: _, h => h.elim
  | _ :: _, [], h => h.elim
theorem Rows.at {H : Hp} {D : Addr} : ∀ {L : List V} {G : List (List Nat)} {i : Nat} {x : V}, Rows H D L G → L[i]? = some x → ∃ g, G[i]? = some g ∧ Row H D x g
  | [], [], i, x, _, e => by simp at e
  | y :: xs, g :: gs, 0, x, h, e => by
    have e' : y = x := Option.some.inj e
    subst e'
    exact ⟨g, rfl, h.1⟩
  | y :: xs, g :: gs, i + 1, x, h, e => Rows.at (i := i) h.2 e
  | [], _ :: _, _, _, h, _ => h.elim
  | _ :: _, [], _, _, h, _ => h.elim
theorem Rows.app {H : Hp} {D : Addr} {x : V} {g : List Nat} (r : Row H D x g) : ∀ {L : List V} {G : List (List Nat)}, Rows H D L G → Rows H D (L ++ [x]) (G ++ [g])
  | [], [], _ => ⟨r, trivial⟩
  | y :: xs, k :: gs, h => ⟨h.1, Rows.app r h.2⟩
  | [], _ :: _, h => h.elim
  | _ :: _, [], h => h.elim
theorem Rows.mono {H H' : Hp} {D : Addr} (s : ∀ q o, q ≠ D → H q = some o → H' q = some o) : ∀ {L : List V} {G : List (List Nat)}, Rows H D L G → Rows H' D L G
  | [], [], _ => trivial
  | y :: xs, k :: gs, h => by
    obtain ⟨⟨q, e, n, hq⟩, r⟩ := h
    exact ⟨⟨q, e, n, s _ _ n hq⟩, Rows.mono s r⟩
  | [], _ :: _, h => h.elim
  | _ :: _, [], h => h.elim
theorem ic_app (g : List Nat) (k : Nat) : (ic (g ++ [k])).map V.int = (ic g).map V.int ++ [V.int ((k : Nat) : Int)] := by
  unfold ic
  rw [List.map_append, List.map_append]
  rfl
def spWays : Sp := fun vs H Q _ => ∃ n : Nat, vs = [.int (n : Nat)] ∧ 1 ≤ n ∧ n ≤ 5 ∧
  ∀ (H' : Hp) (p : Addr) (L : List V), Same H H' → H p = none → H' p = some (.lst L) → Rows H' p L (Ks565.all n) → Q (.ref p) H'
section
variable {P : Program} {w : World} {K : PySem.W.Frag} {mg : Str → Option Value} {base : Heap}
theorem scWy : FnScope ["n", "ways", "person", "longer", "way", "k"] ["n"] (defScope s_ways_to_be) := ⟨rfl, rfl, rfl, by decide +kernel, rfl, by decide +kernel, by decide +kernel⟩
theorem ok_ways_to_be {f : Addr} {fd : FuncData} (F : Fun K "ways_to_be" "ways_to_be" s_ways_to_be f fd) (T : Txt mg) {f4 : Addr} {fd4 : FuncData} (D4 : Def K mg "how_many" s_how_many ["numbered"] f4 fd4) :
    FnOk P w K mg base CX0 2 f fd ["n"] spWays := by
  have G4 := ok_how_many (P := P) (w := w) (base := base) D4.fn T
  refine F.ok scWy (fun vs H Q E h => ?_) (fun cdv A outer s H vs Q E hr h => ?_)
  · obtain ⟨n, rfl, _⟩ := h
    rfl
  · obtain ⟨n, rfl, hn1, hn5, k⟩ := h
    refine ⟨_, pss_cons (ps_set (i := 1) scWy.nd rfl (.inl rfl) (pe_lst (pa_cons (pe_lst (pa_cons pe_int pa_nil)) pa_nil)))
      (pss_cons (ps_for PassesOwn.never rfl (pi_range2 (by rfl) T.b_range (pa_cons pe_int (pa_cons (pv 0) pa_nil))) (pg_name (i := 2) scWy.nd rfl (.inl rfl))
        (pss_cons (ps_set (i := 3) scWy.nd rfl (.inl rfl) (pe_lst pa_nil))
        (pss_cons (ps_for PassesOwn.never rfl (pi_list (pv 1)) (pg_name (i := 4) scWy.nd rfl (.inl rfl))
          (pss_one (ps_for PassesOwn.never rfl (pi_range1 rfl T.b_range (pa_cons (pe_op op_add (pe_call G4 hr rfl D4.gl D4.fn.kp D4.bd .nil pass0 (pa_cons (pv 4) pa_nil)) pe_int) pa_nil)) (pg_name (i := 5) scWy.nd rfl (.inl rfl))
            (pss_one (ps_expr (pe_bm PySem.F.plainAttrs_list PySem.F.slot_list_append PySem.F.type_list_append mt_append (pv 3) (pa_cons (pe_op op_cat (pv 4) (pe_lst (pa_cons (pv 5) pa_nil))) pa_nil)))))))
        (pss_one (ps_set (i := 1) scWy.nd rfl (.inl rfl) (pv 3))))))
      (pss_one (ps_ret (pv 1)))), ?_⟩
    refine ⟨(by show 1 ≤ sizeLine; decide), fun q0 hq0 => ?_⟩
    refine ⟨(by show 1 ≤ sizeLine; decide), fun w0 hw0 => ?_⟩
    have s0 : Same H (upd (upd H q0 (.lst [.int 0])) w0 (.lst [.ref q0])) := (sm_new hq0).trans (sm_new hw0)
    have nq : q0 ≠ w0 := fun e => by
      rw [← e, upd_same] at hw0
      cases hw0
    have hw00 : H w0 = none := (sm_new (o := .lst [.int 0]) hq0).free hw0
    refine ⟨_, rfl, 1, ((n : Nat) : Int), rfl, ⟨by omega, by omega, by omega, by omega⟩, for_range (lo := 1) (n := (((n : Nat) : Int) - 1).toNat) (fun i σ H' => ∃ (z2 z3 z4 z5 : Option V) (pw : Addr) (L : List V), σ = [some (.int (n : Nat)), some (.ref pw), z2, z3, z4, z5] ∧
        Same H H' ∧ H pw = none ∧ H' pw = some (.lst L) ∧ Rows H' pw L (Ks565.all (i + 1)))
      ⟨none, none, none, none, w0, _, rfl, s0, hw00, upd_same, ⟨q0, rfl, nq, ?_⟩, trivial⟩ ?_ ?_⟩
    · rw [upd_ne nq, upd_same]
      rfl
    · rintro i σ H1 hi ⟨z2, z3, z4, z5, pw, L, rfl, S1, hpw0, hpw, hL⟩
      have hi' : i + 1 < n := by omega
      obtain ⟨fewG, eachG⟩ := all_few (i + 1) (by omega)
      refine ⟨Nat.zero_le _, fun pl hpl => ?_⟩
      have S2 : Same H1 (upd H1 pl (.lst [])) := sm_new hpl
      refine ⟨_, rfl, pw, rfl, ⟨_, S2.seq (SqL.of hpw)⟩, for_list (K := K) (a := pw) (xs := L) (fun j σ H' => ∃ (z4 z5 : Option V) (M : List V), σ = [some (.int (n : Nat)), some (.ref pw), some (.int (1 + (i : Nat))), some (.ref pl), z4, z5] ∧
          Same H1 H' ∧ H' pl = some (.lst M) ∧ Rows H' pl M (wayStep ((Ks565.all (i + 1)).take j)))
        ⟨z4, z5, [], rfl, S2, upd_same, trivial⟩ (fun j σ H' _ ⟨_, _, _, _, s5, _⟩ => s5.seq (SqL.of hpw)) ?_ ?_⟩
      · rintro j x σ H2 hx ⟨z4, z5, M, rfl, S3, hM, hR⟩
        obtain ⟨g, hg, q, rfl, hqn, hq⟩ := hL.at hx
        obtain ⟨lg, gg⟩ := eachG g (List.mem_of_getElem? hg)
        have lw : (wayStep ((Ks565.all (i + 1)).take j)).length ≤ 364 := by
          have h1 := wayStep_len ((Ks565.all (i + 1)).take j) fun x hx => (eachG x (List.mem_of_mem_take hx)).2
          have h2 : ((Ks565.all (i + 1)).take j).length ≤ 52 := by
            rw [List.length_take]
            omega
          omega
        refine ⟨_, rfl, q, g, rfl, S3.seq (SqL.of hq), by omega, _, _, rfl, rfl, ((Ks565.groups g : Nat) : Int) + 1, rfl, by omega, by omega, for_range (lo := 0) (n := (((Ks565.groups g : Nat) : Int) + 1).toNat) (fun t σ H' => ∃ (z5 : Option V) (M : List V), σ = [some (.int (n : Nat)), some (.ref pw), some (.int (1 + (i : Nat))), some (.ref pl), some (.ref q), z5] ∧
            Same H1 H' ∧ H' pl = some (.lst M) ∧ Rows H' pl M (wayStep ((Ks565.all (i + 1)).take j) ++ stepRow g t))
          ⟨z5, M, rfl, S3, hM, ?_⟩ ?_ ?_⟩
        · show Rows H2 pl M (wayStep ((Ks565.all (i + 1)).take j) ++ [])
          rw [List.append_nil]
          exact hR
        · rintro t σ H3 ht ⟨z5, M, rfl, S4, hM, hR⟩
          have hq3 : H3 q = some (.lst ((ic g).map V.int)) := S4 _ _ hq
          have lM : M.length ≤ 900 := by
            have h1 := hR.len
            rw [List.length_append, stepRow_len] at h1
            omega
          refine ⟨_, rfl, .inl ⟨rfl, _, SqL.of hM⟩, _, rfl, _, rfl, (by show 1 ≤ sizeLine; decide), fun q1 hq1 => ?_⟩
          refine ⟨q, q1, _, _, rfl, rfl, sm_new hq1 _ _ hq3, upd_same, ?_, fun q2 hq2 => ?_⟩
          · refine Nat.le_of_lt (small1000 ?_)
            rw [map_len, ic_len]
            show g.length + 1 ≤ 1000
            omega
          have s6 : ∀ o : HO, Same H3 (upd (upd H3 q1 (.lst [.int (0 + (t : Nat))])) q2 o) := fun o => (sm_new hq1).trans (sm_new hq2)
          have n2 : q2 ≠ pl := fun e => by
            rw [e] at hq2
            exact nomatch (sm_new (o := .lst [.int (0 + (t : Nat))]) hq1 _ _ hM).symm.trans hq2
          refine ⟨pl, _, _, rfl, rfl, s6 _ _ _ hM, small1000 (by omega), ?_⟩
          refine ⟨_, M ++ [.ref q2], rfl, fun c o e => ?_, upd_same, ?_⟩
          · rw [upd_ne (ne_of_none e hpl)]
            exact s6 _ _ _ (S4 c o e)
          · rw [stepRow_more, ← List.append_assoc]
            refine Rows.app ⟨q2, rfl, n2, ?_⟩ (hR.mono fun c o n e => ?_)
            · rw [upd_ne n2, upd_same, ic_app, Int.zero_add]
            · rw [upd_ne n]
              exact s6 _ _ _ e
        · rintro σ H3 ⟨z5, M, rfl, S4, hM, hR⟩
          have e : (((Ks565.groups g : Nat) : Int) + 1).toNat = Ks565.groups g + 1 := by omega
          rw [e, ← wayStep_more hg] at hR
          exact ⟨_, _, M, rfl, S4, hM, hR⟩
      · rintro σ H2 ⟨z4, z5, M, rfl, S3, hM, hR⟩
        rw [hL.len, List.take_length, ← all_step (i + 1) (by omega) (by omega)] at hR
        exact ⟨_, rfl, _, _, _, _, pl, M, rfl, S1.trans S3, S1.free hpl, hM, hR⟩
    · rintro σ H1 ⟨z2, z3, z4, z5, pw, L, rfl, S1, hpw0, hpw, hL⟩
      have e : (((n : Nat) : Int) - 1).toNat + 1 = n := by omega
      rw [e] at hL
      exact ⟨_, rfl, k H1 pw L S1 hpw0 hpw hL⟩
end
end Rw

namespace Rw
open PySem PySem.Spec PyProof.Rows L2
open PySem.W (Codec)
/-! ### all_ways -/
def spAns (K : PySem.W.Frag) : Sp := fun vs H Q _ => ∃ n : Int, vs = [.int n] ∧ 0 ≤ n ∧ ∀ (H' : Hp) (p : Addr), H' p = some (.lst ((PyKs565.all_ways n).map V.int)) → Q (.ref p) H'
section
variable {P : Program} {w : World} {K : PySem.W.Frag} {mg : Str → Option Value} {base : Heap}
theorem scAl : FnScope ["n"] ["n"] (defScope s_all_ways) := ⟨rfl, rfl, rfl, by decide +kernel, rfl, by decide +kernel, by decide +kernel⟩
theorem ok_all_ways {f : Addr} {fd : FuncData} (F : Fun K "all_ways" "all_ways" s_all_ways f fd) (T : Txt mg) {f0 f4 f11 : Addr} {fd0 fd4 fd11 : FuncData}
    (D0 : Def K mg "people_are_told" s_people_are_told ["n"] f0 fd0) (D4 : Def K mg "how_many" s_how_many ["numbered"] f4 fd4) (D11 : Def K mg "ways_to_be" s_ways_to_be ["n"] f11 fd11) : FnOk P w K mg base CX0 3 f fd ["n"] (spAns K) := by
  obtain ⟨t0, g0⟩ := T.c_NOT_AS_TOLD
  have G0 := ok_people_are_told (P := P) (w := w) (base := base) D0.fn T
  have G11 := ok_ways_to_be (P := P) (w := w) (base := base) D11.fn T D4
  refine F.ok scAl (fun vs H Q E h => ?_) (fun cdv A outer s H vs Q E hr h => ?_)
  · obtain ⟨n, rfl, _⟩ := h
    rfl
  · obtain ⟨n, rfl, h0, k⟩ := h
    have hr1 : Room 1 _ := hr.mono (by decide)
    refine ⟨_, pss_cons (ps_if (pt_not (pt_val (pe_call G0 hr1 rfl D0.gl D0.fn.kp D0.bd .nil pass0 (pa_cons (pv 0) pa_nil)))) (pss_one (ps_ret (pe_lst (pa_cons (pe_glob (v := .int (-22)) rfl g0 ⟨_, rfl⟩) pa_nil)))) pss_nil)
      (pss_one (ps_ret (pe_lst (pa_cons (pe_callB call_len_seq (by rfl) T.b_len PySem.boot_len (pa_cons (pe_call G11 hr rfl D11.gl D11.fn.kp D11.bd .nil pass0 (pa_cons (pv 0) pa_nil)) pa_nil)) pa_nil)))), ?_⟩
    refine ⟨_, rfl, n, rfl, _, rfl, ?_⟩
    cases c1 : peopleOk n with
    | false =>
      refine iteT ?_
      refine ⟨by decide, fun p hp => k _ p ?_⟩
      rw [all_no h0 c1]
      exact upd_same
    | true =>
    refine iteF ?_
    obtain ⟨hn1, hn5⟩ := peopleOk_says c1
    obtain ⟨m, rfl⟩ : ∃ m : Nat, n = (m : Nat) := ⟨n.toNat, by omega⟩
    rw [all_yes (by omega) (by omega)] at k
    refine ⟨_, rfl, m, rfl, by omega, by omega, fun H1 pw L S1 hpw0 hpw hL => ?_⟩
    refine ⟨pw, _, rfl, .inl (SqL.of hpw), (by show 1 ≤ sizeLine; decide), fun p hp => k _ p ?_⟩
    rw [upd_same, hL.len]
    rfl
end
end Rw

namespace Rw
open PySem PySem.Spec PyProof.Rows L2
open PySem.W (Codec)
/-! ### the end -/
theorem all_mk {P : Program} {w : World} {K : PySem.W.Frag} {h : Heap} {mg : Str → Option Value} {fa f1 f2 f3 f4 : Addr} (X : K.In h) (G : h.Ns mainGlobals mg) (hfa : mg "all_ways" = some (.ref fa))
    {od1 an1 od2 an2 od3 an3 od4 an4 : Option Addr} {sl1 sl2 sl3 sl4 : Array (Option Value)} {oc1 kV1 dc1 pm1 cd1 ct1 oc2 kV2 dc2 pm2 cd2 ct2 oc3 kV3 dc3 pm3 cd3 ct3 oc4 kV4 dc4 pm4 cd4 ct4 : Value}
    {t0 : Tok} (n0 : PySem.W.nsIn K mainGlobals "NOT_AS_TOLD" = some (some (.int (-22) t0)))
    {t1 : Tok} (n1 : PySem.W.nsIn K mainGlobals "MOST_PEOPLE" = some (some (.int 5 t1)))
    (z0 : PySem.W.nsIn K mainGlobals "len" = some none)
    (z1 : PySem.W.nsIn K mainGlobals "range" = some none)
    (z2 : PySem.W.nsIn K mainGlobals "max" = some none)
    (a1 : PySem.W.nsIn K mainGlobals "people_are_told" = some (some (.ref f1))) (l1 : K.lookup f1 = some ⟨oc1, od1, .func (PySem.W.fnOf "people_are_told" "people_are_told" (defArgs s_people_are_told) (defBody s_people_are_told) (defScope s_people_are_told) .none kV1 dc1 pm1 an1 cd1 ct1), sl1⟩) (c1 : PySem.W.codeIn K cd1 "people_are_told" = true) (k1 : PySem.W.keepIn K (.ref f1) = true)
    (a2 : PySem.W.nsIn K mainGlobals "how_many" = some (some (.ref f2))) (l2 : K.lookup f2 = some ⟨oc2, od2, .func (PySem.W.fnOf "how_many" "how_many" (defArgs s_how_many) (defBody s_how_many) (defScope s_how_many) .none kV2 dc2 pm2 an2 cd2 ct2), sl2⟩) (c2 : PySem.W.codeIn K cd2 "how_many" = true) (k2 : PySem.W.keepIn K (.ref f2) = true)
    (a3 : PySem.W.nsIn K mainGlobals "ways_to_be" = some (some (.ref f3))) (l3 : K.lookup f3 = some ⟨oc3, od3, .func (PySem.W.fnOf "ways_to_be" "ways_to_be" (defArgs s_ways_to_be) (defBody s_ways_to_be) (defScope s_ways_to_be) .none kV3 dc3 pm3 an3 cd3 ct3), sl3⟩) (c3 : PySem.W.codeIn K cd3 "ways_to_be" = true) (k3 : PySem.W.keepIn K (.ref f3) = true)
    (a4 : PySem.W.nsIn K mainGlobals "all_ways" = some (some (.ref f4))) (l4 : K.lookup f4 = some ⟨oc4, od4, .func (PySem.W.fnOf "all_ways" "all_ways" (defArgs s_all_ways) (defBody s_all_ways) (defScope s_all_ways) .none kV4 dc4 pm4 an4 cd4 ct4), sl4⟩) (c4 : PySem.W.codeIn K cd4 "all_ways" = true) (k4 : PySem.W.keepIn K (.ref f4) = true) :
    ∃ fd : FuncData, (∀ (s : Shared) (us : List Value), us.length = (["n"] : List Str).length → BindsTo s fd ⟨us, []⟩ ((["n"] : List Str).zip us)) ∧ ∀ base : Heap, K.In base → base.Ns mainGlobals mg → FnOk P w K mg base CX0 3 fa fd ["n"] (spAns K) := by
  have e := hfa.symm.trans (PySem.W.mg_of X G a4)
  cases e
  have T : Txt mg := ⟨⟨_, PySem.W.mg_of X G n0⟩, ⟨_, PySem.W.mg_of X G n1⟩, PySem.W.mg_none_of X G z0, PySem.W.mg_none_of X G z1, PySem.W.mg_none_of X G z2⟩
  have F1 := fun_mk (st := s_people_are_told) l1 c1 k1
  have b1 := F1.binds (ps := ["n"]) fun _ _ _ _ _ _ us hl => match us, hl with | [_], _ => rfl
  have F2 := fun_mk (st := s_how_many) l2 c2 k2
  have b2 := F2.binds (ps := ["numbered"]) fun _ _ _ _ _ _ us hl => match us, hl with | [_], _ => rfl
  have F3 := fun_mk (st := s_ways_to_be) l3 c3 k3
  have b3 := F3.binds (ps := ["n"]) fun _ _ _ _ _ _ us hl => match us, hl with | [_], _ => rfl
  have F4 := fun_mk (st := s_all_ways) l4 c4 k4
  have b4 := F4.binds (ps := ["n"]) fun _ _ _ _ _ _ us hl => match us, hl with | [_], _ => rfl
  exact ⟨PySem.W.fnOf "all_ways" "all_ways" (defArgs s_all_ways) (defBody s_all_ways) (defScope s_all_ways) .none kV4 dc4 pm4 an4 cd4 ct4, fun s us hu => match us, hu with | [_], _ => .of_eq rfl, fun base _ _ => ok_all_ways F4 T ⟨F1, PySem.W.mg_of X G a1, b1⟩ ⟨F2, PySem.W.mg_of X G a2, b2⟩ ⟨F3, PySem.W.mg_of X G a3, b3⟩⟩
end Rw
open PySem PySem.W PyProof.Rows
set_option maxRecDepth 100000 in
set_option maxHeartbeats 8000000 in
theorem PySem.Challenge.cw_ratherwhere_s06_all_ways_holds : PySem.Challenge.rw_ratherwhere_s06_all_ways.Holds := by
  w_on; k_headS; (case hw => exact ⟨[.int 0], by decide +kernel, by decide +kernel⟩)
  k_fillS
  refine L2.walk_specK (r := PySem.Challenge.rw_ratherwhere_s06_all_ways) (k := 3) (CX := L2.CX0) (ps := ["n"]) (sp := Rw.spAns) (by decide +kernel) rfl rfl ⟨rfl, by decide, by decide⟩ (fun w h Y => PySem.W.kIn_of Y) ?F ?S (fun _ _ _ _ z => z)
  case F =>
    intro w mg fa h Y KX G hmg
    refine' Rw.all_mk KX G hmg ?n0 ?n1 ?z0 ?z1 ?z2 ?a1 ?l1 ?c1 ?k1 ?a2 ?l2 ?c2 ?k2 ?a3 ?l3 ?c3 ?k3 ?a4 ?l4 ?c4 ?k4
    (case n0 => k_is)
    (case n1 => k_is)
    (case z0 => k_is)
    (case z1 => k_is)
    (case z2 => k_is)
    (case a1 => k_is)
    (case l1 => k_is)
    (case c1 => k_is)
    (case k1 => k_is)
    (case a2 => k_is)
    (case l2 => k_is)
    (case c2 => k_is)
    (case k2 => k_is)
    (case a3 => k_is)
    (case l3 => k_is)
    (case c3 => k_is)
    (case k3 => k_is)
    (case a4 => k_is)
    (case l4 => k_is)
    (case c4 => k_is)
    (case k4 => k_is)
  case S =>
    intro K H xs a hO hwi hask hx
    cases hx with
    | cons h0 hx =>
      cases h0
      cases hx
      have q : (Codec.inInt 0 4294967295 a.1 && true) = true := hwi
      rw [Bool.and_eq_true] at q
      exact ⟨_, rfl, (Codec.inInt_iff.mp q.1).1, fun H' p hp => .lst (L2.SqL.of hp) (L2.dw_ints _)⟩
#print axioms PySem.Challenge.cw_ratherwhere_s06_all_ways_holds
