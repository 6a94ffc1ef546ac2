import PyProof.Rows.All
import Wide.All
import OpenK.AllK
import Wide.FinOn
import PyCp08
import PyWideLaws
import Open.SpecLaws
import KE.OsGo
import HandS.ForSpec
import HandS.Comp
import HandS.Strs
import HandS.SetFor
import HandS.SortInts
import HandS.Iter
import HandS.Steps
import HandS.Walk
import PySem.Challenge.RW_fugueanswers_s01_answers
set_option Elab.async false
namespace Fa
open Cp07 (Event Line Voice Table)
/-! ### Reading events -/
def firstEvent : List Int → Option Event
  | [] => none
  | z :: r => if z = 0 then (match r with
      | n :: _ => if Cp07.isIn 1 512 n then some ⟨none, n.toNat⟩ else none
      | [] => none)
    else if z = 1 then (match r with
      | d :: n :: _ => if Cp07.isIn 0 69 d && Cp07.isIn 1 512 n then some ⟨some d, n.toNat⟩ else none
      | _ => none)
    else none
def evSize (e : Event) : Nat := match e.n with
  | none => 2
  | some _ => 3
theorem events_none {l : List Int} (h0 : l ≠ []) (h : firstEvent l = none) : Cp07.events l = none := by
  cases l with
  | nil => exact absurd rfl h0
  | cons z r =>
    rw [Cp07.events.eq_def]
    unfold firstEvent at h
    dsimp only at h ⊢
    by_cases hz : z = 0
    · rw [if_pos hz] at h ⊢
      cases r with
      | nil => rfl
      | cons n q =>
        dsimp only at h ⊢
        by_cases hn : Cp07.isIn 1 512 n = true
        · rw [if_pos hn] at h
          cases h
        · rw [if_neg hn]
    · rw [if_neg hz] at h ⊢
      by_cases h1 : z = 1
      · rw [if_pos h1] at h ⊢
        match r, h with
        | [], _ => rfl
        | [_], _ => rfl
        | d :: n :: q, h =>
          dsimp only at h ⊢
          by_cases hn : (Cp07.isIn 0 69 d && Cp07.isIn 1 512 n) = true
          · rw [if_pos hn] at h
            cases h
          · rw [if_neg hn]
      · rw [if_neg h1]
theorem events_some {l : List Int} {e : Event} (h : firstEvent l = some e) : Cp07.events l = (Cp07.events (l.drop (evSize e))).map (fun x => e :: x) ∧ evSize e ≤ l.length ∧ 1 ≤ e.len ∧ e.len ≤ 512 := by
  cases l with
  | nil => cases h
  | cons z r =>
    rw [Cp07.events.eq_def]
    unfold firstEvent at h
    dsimp only at h ⊢
    by_cases hz : z = 0
    · rw [if_pos hz] at h ⊢
      cases r with
      | nil => cases h
      | cons n q =>
        dsimp only at h ⊢
        by_cases hn : Cp07.isIn 1 512 n = true
        · rw [if_pos hn] at h ⊢
          have e1 := Option.some.inj h
          subst e1
          have := Bool.and_eq_true_iff.mp hn
          have h1 := of_decide_eq_true this.1
          have h2 := of_decide_eq_true this.2
          refine ⟨rfl, ?_, ?_, ?_⟩
          · show 2 ≤ q.length + 1 + 1
            omega
          · show 1 ≤ n.toNat
            omega
          · show n.toNat ≤ 512
            omega
        · rw [if_neg hn] at h
          cases h
    · rw [if_neg hz] at h ⊢
      by_cases h1 : z = 1
      · rw [if_pos h1] at h ⊢
        match r, h with
        | [], h => cases h
        | [_], h => cases h
        | d :: n :: q, h =>
          dsimp only at h ⊢
          by_cases hn : (Cp07.isIn 0 69 d && Cp07.isIn 1 512 n) = true
          · rw [if_pos hn] at h ⊢
            have e1 := Option.some.inj h
            subst e1
            have := Bool.and_eq_true_iff.mp (Bool.and_eq_true_iff.mp hn).2
            have h1 := of_decide_eq_true this.1
            have h2 := of_decide_eq_true this.2
            refine ⟨rfl, ?_, ?_, ?_⟩
            · show 3 ≤ q.length + 1 + 1 + 1
              omega
            · show 1 ≤ n.toNat
              omega
            · show n.toNat ≤ 512
              omega
          · rw [if_neg hn] at h
            cases h
      · rw [if_neg h1] at h
        cases h
/-- what lies behind i numbers, events got so far -/
def Read (ns : List Int) (l : Line) (i : Nat) : Prop := Cp07.events ns = (Cp07.events (ns.drop i)).map (fun x => l ++ x) ∧ i ≤ ns.length ∧ l.length ≤ i ∧ (∀ e ∈ l, 1 ≤ e.len ∧ e.len ≤ 512)
theorem read_zero (ns : List Int) : Read ns [] 0 := ⟨by
  rw [List.drop_zero]
  cases Cp07.events ns <;> rfl, Nat.zero_le _, Nat.le_refl _, fun _ h => nomatch h⟩
theorem read_more {ns : List Int} {l : Line} {i : Nat} {e : Event} (h : Read ns l i) (he : firstEvent (ns.drop i) = some e) : Read ns (l ++ [e]) (i + evSize e) := by
  obtain ⟨h1, h2, h3, h4⟩ := h
  obtain ⟨e1, e2, e3, e4⟩ := events_some he
  have hs : 1 ≤ evSize e := by
    unfold evSize
    cases e.n <;> simp
  rw [List.length_drop] at e2
  refine ⟨?_, by omega, by rw [List.length_append, List.length_singleton]; omega, ?_⟩
  · rw [h1, e1, List.drop_drop]
    cases Cp07.events (List.drop (i + evSize e) ns) with
    | none => rfl
    | some x =>
      show some (l ++ (e :: x)) = some (l ++ [e] ++ x)
      rw [List.append_assoc]
      rfl
  · intro x hx
    rw [List.mem_append] at hx
    cases hx with
    | inl hx => exact h4 x hx
    | inr hx =>
      rw [List.mem_singleton] at hx
      subst hx
      exact ⟨e3, e4⟩
theorem read_end {ns : List Int} {l : Line} {i : Nat} (h : Read ns l i) (hi : ns.length ≤ i) : Cp07.events ns = some l := by
  have e := h.1
  rw [List.drop_eq_nil_of_le hi] at e
  rw [e]
  show some (l ++ []) = some l
  rw [List.append_nil]
theorem read_fail {ns : List Int} {l : Line} {i : Nat} (h : Read ns l i) (hi : i < ns.length) (he : firstEvent (ns.drop i) = none) : Cp07.events ns = none := by
  rw [h.1, events_none _ he]
  · rfl
  · intro z
    have := congrArg List.length z
    rw [List.length_drop, List.length_nil] at this
    omega
/-- all events of a line that was read -/
def Fit (l : Line) : Prop := ∀ e ∈ l, 1 ≤ e.len ∧ e.len ≤ 512
/-! ### The head -/
def offHead (tonic : Int) (e : Event) : Bool := match e.n with
  | some z => !(Cp08.degree tonic z == 0 || Cp08.degree tonic z == 4)
  | none => false
theorem headOf_eq (tonic : Int) (l : Line) : Cp08.headOf tonic l = (match l.findIdx? (offHead tonic) with
  | some i => i
  | none => l.length) := rfl
theorem headOf_nil (t : Int) : Cp08.headOf t [] = 0 := rfl
theorem headOf_cons (t : Int) (e : Event) (l : Line) : Cp08.headOf t (e :: l) = if offHead t e then 0 else Cp08.headOf t l + 1 := by
  rw [headOf_eq, headOf_eq, List.findIdx?_cons]
  cases h : offHead t e with
  | true => rfl
  | false =>
    rw [if_neg Bool.false_ne_true, if_neg Bool.false_ne_true]
    cases List.findIdx? (offHead t) l <;> rfl
theorem headOf_le (t : Int) : ∀ l : Line, Cp08.headOf t l ≤ l.length
  | [] => Nat.le_refl _
  | e :: l => by
    rw [headOf_cons, List.length_cons]
    have := headOf_le t l
    split <;> omega
/-- behind i events that are all of the head -/
theorem headOf_pre (t : Int) : ∀ (p r : Line), (∀ e ∈ p, offHead t e = false) → Cp08.headOf t (p ++ r) = p.length + Cp08.headOf t r
  | [], r, _ => by
    show Cp08.headOf t r = 0 + _
    omega
  | e :: p, r, h => by
    show Cp08.headOf t (e :: (p ++ r)) = _
    rw [headOf_cons, h e (List.mem_cons_self ..), if_neg Bool.false_ne_true, headOf_pre t p r (fun x hx => h x (List.mem_cons_of_mem _ hx)), List.length_cons]
    omega
/-! ### Answers -/
def isDom (t : Int) (e : Event) : Bool := match e.n with
  | some z => Cp08.degree t z == 4
  | none => false
def raiseE (u : Int) (e : Event) : Event := ⟨e.n.map fun z => z + u, e.len⟩
def ansE (t : Int) (e : Event) : Event := raiseE (if isDom t e then 3 else 4) e
theorem shift_eq (u : Int) (l : Line) : Cp08.shift u l = l.map (raiseE u) := rfl
theorem real_eq (l : Line) : Cp08.real l = l.map (raiseE 4) := rfl
theorem zipIdx_map {α β : Type} (f : α → Nat → β) : ∀ (l : List α) (k : Nat), (l.zipIdx k).map (fun e => f e.1 e.2) = (l.zipIdx k).map (fun e => f e.1 e.2) := fun _ _ => rfl
def ansAt (t : Int) (h : Nat) (e : Event × Nat) : Event := ⟨e.1.n.map fun z => if e.2 < h ∧ Cp08.degree t z = 4 then z + 3 else z + 4, e.1.len⟩
theorem ansAt_lt {t : Int} {h k : Nat} {e : Event} (hk : k < h) : ansAt t h (e, k) = ansE t e := by
  obtain ⟨n, len⟩ := e
  cases n with
  | none => rfl
  | some z =>
    unfold ansAt ansE raiseE isDom
    dsimp only [Option.map]
    by_cases hd : Cp08.degree t z = 4
    · rw [if_pos ⟨hk, hd⟩, if_pos (by rw [hd]; rfl)]
    · rw [if_neg (fun q => hd q.2), if_neg (by simpa using hd)]
theorem ansAt_ge {t : Int} {h k : Nat} {e : Event} (hk : ¬ k < h) : ansAt t h (e, k) = raiseE 4 e := by
  obtain ⟨n, len⟩ := e
  cases n with
  | none => rfl
  | some z =>
    unfold ansAt raiseE
    dsimp only [Option.map]
    rw [if_neg (fun q => hk q.1)]
theorem ans_go (t : Int) (h : Nat) : ∀ (l : Line) (k : Nat), (l.zipIdx k).map (ansAt t h) = (l.take (h - k)).map (ansE t) ++ (l.drop (h - k)).map (raiseE 4)
  | [], k => by simp
  | e :: l, k => by
    rw [List.zipIdx_cons, List.map_cons, ans_go t h l (k + 1)]
    by_cases hk : k < h
    · rw [ansAt_lt hk, show h - k = (h - (k + 1)) + 1 by omega, List.take_succ_cons, List.drop_succ_cons, List.map_cons, List.cons_append]
    · rw [ansAt_ge hk, show h - k = 0 by omega, show h - (k + 1) = 0 by omega]
      rfl
theorem answer_eq (t : Int) (l : Line) : Cp08.answer t l = (l.take (Cp08.headOf t l)).map (ansE t) ++ (l.drop (Cp08.headOf t l)).map (raiseE 4) := by
  have := ans_go t (Cp08.headOf t l) l 0
  rw [Nat.sub_zero] at this
  exact this
theorem ansE_ne (t : Int) (e : Event) : (ansE t e != raiseE 4 e) = isDom t e := by
  obtain ⟨n, len⟩ := e
  unfold ansE
  cases n with
  | none => exact bne_self_eq_false _
  | some z =>
    cases hd : isDom t ⟨some z, len⟩ with
    | true =>
      rw [if_pos rfl]
      unfold raiseE
      rw [bne_iff_ne]
      intro q
      have q2 : z + 3 = z + 4 := Option.some.inj (congrArg Event.n q)
      omega
    | false =>
      rw [if_neg Bool.false_ne_true, bne_self_eq_false]
theorem same_cons (a b : Event) (l m : Line) : Cp08.same (a :: l) (b :: m) = (if a != b then 1 else 0) + Cp08.same l m := by
  unfold Cp08.same
  rw [List.zip_cons_cons, List.filter_cons]
  split
  · rw [List.length_cons]
    omega
  · omega
theorem same_self : ∀ l : Line, Cp08.same l l = 0
  | [] => rfl
  | e :: l => by
    rw [same_cons, same_self l, bne_self_eq_false]
    rfl
theorem same_go (t : Int) : ∀ (p r : Line), Cp08.same (p.map (ansE t) ++ r) (p.map (raiseE 4) ++ r) = (p.filter (isDom t)).length
  | [], r => same_self r
  | e :: p, r => by
    rw [List.map_cons, List.map_cons, List.cons_append, List.cons_append, same_cons, same_go t p r, ansE_ne, List.filter_cons]
    split
    · rw [List.length_cons]
      omega
    · omega
theorem same_eq (t : Int) (l : Line) : Cp08.same (Cp08.answer t l) (Cp08.real l) = ((l.take (Cp08.headOf t l)).filter (isDom t)).length := by
  rw [answer_eq, real_eq]
  have e : l.map (raiseE 4) = (l.take (Cp08.headOf t l)).map (raiseE 4) ++ (l.drop (Cp08.headOf t l)).map (raiseE 4) := by
    rw [← List.map_append, List.take_append_drop]
  rw [e, same_go]
end Fa

set_option Elab.async false
namespace Fa
open Cp07 (Event Line Voice Table)
/-! ### Voices -/
abbrev Placed := Nat × Nat × Option Int
def placedL : Nat → Line → List Placed
  | _, [] => []
  | s, e :: l => (s, s + e.len, e.n) :: placedL (s + e.len) l
def stepAt : List Placed → Nat → Option Int
  | [], _ => none
  | x :: r, t => if x.1 ≤ t ∧ t < x.2.1 then x.2.2 else stepAt r t
def sounds (v : Voice) (t : Nat) : Option Int := (Cp07.sounding v t).map (·.1)
theorem begins_placed : ∀ (s : Nat) (l : Line), (placedL s l).map (·.1) = Cp07.begins s l
  | _, [] => rfl
  | s, e :: l => by
    show s :: (placedL (s + e.len) l).map (·.1) = s :: Cp07.begins (s + e.len) l
    rw [begins_placed]
theorem stepAt_early : ∀ (l : Line) (s t : Nat), t < s → stepAt (placedL s l) t = none
  | [], _, _, _ => rfl
  | e :: l, s, t, h => by
    show (if s ≤ t ∧ t < s + e.len then e.n else stepAt (placedL (s + e.len) l) t) = none
    rw [if_neg (by omega), stepAt_early l (s + e.len) t (by omega)]
theorem stepAt_eq : ∀ (l : Line) (s t : Nat), stepAt (placedL s l) t = sounds (s, l) t
  | [], _, _ => rfl
  | e :: l, s, t => by
    show (if s ≤ t ∧ t < s + e.len then e.n else stepAt (placedL (s + e.len) l) t) = sounds (s, e :: l) t
    have ih := stepAt_eq l (s + e.len) t
    unfold sounds Cp07.sounding at ih ⊢
    dsimp only at ih ⊢
    rw [Cp07.at_.eq_def]
    dsimp only
    by_cases h1 : t < s + e.len
    · rw [if_pos h1]
      by_cases h2 : t < s
      · rw [if_pos h2, if_neg (by omega), stepAt_early l (s + e.len) t (by omega)]
        rfl
      · rw [if_neg h2, if_pos (by omega)]
        cases e.n <;> rfl
    · rw [if_neg h1, if_neg (by omega), ih]
/-! ### Moments -/
theorem dedup_mem (x : Nat) : ∀ (l acc : List Nat), x ∈ l.foldl (fun l t => if l.contains t then l else l ++ [t]) acc ↔ x ∈ acc ∨ x ∈ l
  | [], acc => by simp
  | y :: l, acc => by
    rw [List.foldl_cons, dedup_mem x l]
    by_cases h : acc.contains y = true
    · rw [if_pos h]
      have hy : y ∈ acc := by simpa using h
      constructor
      · rintro (h1 | h1)
        · exact .inl h1
        · exact .inr (List.mem_cons_of_mem _ h1)
      · rintro (h1 | h1)
        · exact .inl h1
        · cases List.mem_cons.mp h1 with
          | inl e => exact .inl (e ▸ hy)
          | inr h2 => exact .inr h2
    · rw [if_neg h, List.mem_append, List.mem_singleton, List.mem_cons, or_assoc]
theorem dedup_nodup : ∀ (l acc : List Nat), acc.Nodup → (l.foldl (fun l t => if l.contains t then l else l ++ [t]) acc).Nodup
  | [], acc, h => h
  | y :: l, acc, h => by
    rw [List.foldl_cons]
    apply dedup_nodup l
    by_cases hy : acc.contains y = true
    · rw [if_pos hy]
      exact h
    · rw [if_neg hy]
      have hn : y ∉ acc := by simpa using hy
      rw [List.nodup_append]
      refine ⟨h, by simp, ?_⟩
      intro a ha b hb e
      rw [List.mem_singleton] at hb
      subst hb
      subst e
      exact hn ha
theorem moments_mem (a b : Voice) (t : Nat) : t ∈ Cp07.moments a b ↔ t ∈ Cp07.begins a.1 a.2 ++ Cp07.begins b.1 b.2 := by
  unfold Cp07.moments
  rw [List.mem_mergeSort, dedup_mem]
  simp
theorem moments_lt (a b : Voice) : (Cp07.moments a b).Pairwise (· < ·) := by
  have h1 : (Cp07.moments a b).Pairwise (fun x y => decide (x ≤ y) = true) := by
    unfold Cp07.moments
    apply List.pairwise_mergeSort
    · intro x y z h1 h2
      have := of_decide_eq_true h1
      have := of_decide_eq_true h2
      exact decide_eq_true (by omega)
    · intro x y
      rw [Bool.or_eq_true, decide_eq_true_eq, decide_eq_true_eq]
      omega
  have h2 : (Cp07.moments a b).Nodup := by
    unfold Cp07.moments
    exact ((List.mergeSort_perm _ _).nodup_iff).mpr (dedup_nodup _ _ List.nodup_nil)
  refine (List.Pairwise.and h1 h2).imp ?_
  intro x y h
  have := of_decide_eq_true h.1
  have := h.2
  omega
theorem sorted_unique : ∀ {l m : List Nat}, l.Pairwise (· < ·) → m.Pairwise (· < ·) → (∀ x, x ∈ l ↔ x ∈ m) → l = m
  | [], [], _, _, _ => rfl
  | [], y :: m, _, _, h => nomatch (h y).mpr (List.mem_cons_self ..)
  | x :: l, [], _, _, h => nomatch (h x).mp (List.mem_cons_self ..)
  | x :: l, y :: m, hl, hm, h => by
    have hl' := List.pairwise_cons.mp hl
    have hm' := List.pairwise_cons.mp hm
    have e : x = y := by
      have h1 := List.mem_cons.mp ((h x).mp (List.mem_cons_self ..))
      have h2 := List.mem_cons.mp ((h y).mpr (List.mem_cons_self ..))
      cases h1 with
      | inl e => exact e
      | inr h1 =>
        cases h2 with
        | inl e => exact e.symm
        | inr h2 =>
          have := hm'.1 x h1
          have := hl'.1 y h2
          omega
    subst e
    rw [sorted_unique hl'.2 hm'.2]
    intro z
    constructor
    · intro hz
      have := hl'.1 z hz
      cases List.mem_cons.mp ((h z).mp (List.mem_cons_of_mem _ hz)) with
      | inl e => omega
      | inr q => exact q
    · intro hz
      have := hm'.1 z hz
      cases List.mem_cons.mp ((h z).mpr (List.mem_cons_of_mem _ hz)) with
      | inl e => omega
      | inr q => exact q
/-! ### What is on at each moment; meetings -/
abbrev Mo := Nat × Option Int × Option Int
def moAt (a b : Voice) (t : Nat) : Mo := (t, sounds a t, sounds b t)
def moList (a b : Voice) : List Mo := (Cp07.moments a b).map (moAt a b)
def meetOf (m : Mo) : Option (Nat × Int × Int) := match m.2.1, m.2.2 with
  | some x, some y => some (m.1, x, y)
  | _, _ => none
theorem meetOf_time {m : Mo} {x : Nat × Int × Int} (h : meetOf m = some x) : x.1 = m.1 := by
  obtain ⟨t, u, v⟩ := m
  cases u with
  | none => cases h
  | some u =>
    cases v with
    | none => cases h
    | some v =>
      have := Option.some.inj h
      subst this
      rfl
theorem meetings_eq (a b : Voice) : Cp07.meetings a b = (moList a b).filterMap meetOf := by
  unfold Cp07.meetings moList
  rw [List.filterMap_map]
  congr 1
  funext t
  show _ = meetOf (moAt a b t)
  unfold meetOf moAt sounds
  dsimp only
  cases Cp07.sounding a t with
  | none => rfl
  | some x =>
    cases Cp07.sounding b t with
    | none => rfl
    | some y => rfl
/-! ### Costs, moment by moment -/
def parOf (q : Table) (ahead : Option Mo) (x : Nat × Int × Int) : Nat := match ahead.bind meetOf with
  | some p => Cp07.parallels q p x
  | none => 0
def costGo (q : Table) : Option Mo → List Mo → List (Nat × Nat)
  | _, [] => []
  | ahead, m :: r => match meetOf m with
    | some x => (x.1, Cp07.price q x + parOf q ahead x) :: costGo q (some m) r
    | none => costGo q (some m) r
def costsOf (q : Table) (a b : Voice) : List (Nat × Nat) := costGo q none (moList a b)
def goPrev {α β : Type} (f : α → Option α → β) : Option α → List α → List β
  | _, [] => []
  | p, x :: r => f x p :: goPrev f (some x) r
theorem prev_map {α β : Type} (f : α → Option α → β) (l : List α) : ∀ (r pre : List α), l = pre ++ r → (r.zipIdx pre.length).map (fun m => f m.1 (if m.2 = 0 then none else l[m.2 - 1]?)) = goPrev f pre.getLast? r
  | [], _, _ => rfl
  | x :: r, pre, h => by
    rw [List.zipIdx_cons, List.map_cons]
    have ih := prev_map f l r (pre ++ [x]) (by rw [h, List.append_assoc]; rfl)
    rw [List.length_append, List.length_singleton] at ih
    rw [ih, List.getLast?_concat]
    show f x (if pre.length = 0 then none else l[pre.length - 1]?) :: _ = f x pre.getLast? :: _
    congr 2
    cases pre with
    | nil => rfl
    | cons y p =>
      rw [if_neg (by simp), h, List.getElem?_append_left (by simp), List.getLast?_eq_getElem?]
theorem adj_last (u : Nat) : ∀ (as bs : List Nat) (t : Nat), (as ++ t :: bs).Pairwise (· < ·) → ((as ++ t :: bs).zip ((as ++ t :: bs).drop 1)).contains (u, t) = decide (as.getLast? = some u)
  | [], bs, t, h => by
    have hb := (List.pairwise_cons.mp h).1
    show ((t :: bs).zip bs).contains (u, t) = decide ((none : Option Nat) = some u)
    rw [decide_eq_false (by simp)]
    rw [Bool.eq_false_iff]
    intro q
    have q2 : (u, t) ∈ (t :: bs).zip bs := by simpa using q
    have := hb t (List.of_mem_zip q2).2
    omega
  | [a], bs, t, h => by
    have h1 := List.pairwise_cons.mp h
    have ih := adj_last u [] bs t h1.2
    show ((a, t) :: ((t :: bs).zip bs)).contains (u, t) = _
    rw [List.contains_cons]
    have ih2 : ((t :: bs).zip bs).contains (u, t) = decide ((none : Option Nat) = some u) := ih
    rw [ih2, decide_eq_false (by simp : ¬ (none : Option Nat) = some u), Bool.or_false]
    show ((u, t) == (a, t)) = decide (some a = some u)
    rw [Bool.eq_iff_iff, decide_eq_true_eq, beq_iff_eq]
    constructor
    · intro e
      rw [(Prod.mk.inj e).1]
    · intro e
      rw [Option.some.inj e]
  | a :: b :: as, bs, t, h => by
    have h1 := List.pairwise_cons.mp h
    have ih := adj_last u (b :: as) bs t h1.2
    have hbt : b < t := (List.pairwise_cons.mp h1.2).1 t (by simp)
    show ((a, b) :: ((b :: (as ++ t :: bs)).zip (as ++ t :: bs))).contains (u, t) = _
    rw [List.contains_cons]
    have ih2 : ((b :: (as ++ t :: bs)).zip (as ++ t :: bs)).contains (u, t) = decide ((b :: as).getLast? = some u) := ih
    rw [ih2, List.getLast?_cons_cons]
    have e : ((u, t) == (a, b)) = false := by
      rw [Bool.eq_false_iff]
      intro q
      rw [beq_iff_eq] at q
      have := (Prod.mk.inj q).2
      omega
    rw [e, Bool.false_or]
/-- the specification's way of telling what a meeting costs, by the meeting ahead -/
def badOf (q : Table) (ts : List Nat) (x : Nat × Int × Int) (p : Option (Nat × Int × Int)) : Nat × Nat := (x.1, Cp07.price q x + match p with
  | some p => if (ts.zip (ts.drop 1)).contains (p.1, x.1) then Cp07.parallels q p x else 0
  | none => 0)
theorem last_time : ∀ (pre : List Mo) (p : Nat × Int × Int), (pre.filterMap meetOf).getLast? = some p → ∀ m, pre.getLast? = some m → meetOf m = none → (pre.map (·.1)).Pairwise (· < ·) → p.1 ≠ m.1 := by
  intro pre p hp m hm hn hs e
  obtain ⟨pre', rfl⟩ : ∃ pre', pre = pre' ++ [m] := by
    have := List.getLast?_eq_some_iff.mp hm
    exact this
  rw [List.filterMap_append] at hp
  have e1 : List.filterMap meetOf [m] = [] := by
    rw [List.filterMap_cons, hn]
    rfl
  rw [e1, List.append_nil] at hp
  have hmem := List.mem_of_getLast? hp
  obtain ⟨m', hm', e2⟩ := List.mem_filterMap.mp hmem
  have ht := meetOf_time e2
  rw [List.map_append] at hs
  have := (List.pairwise_append.mp hs).2.2 m'.1 (List.mem_map_of_mem hm') m.1 (by simp)
  omega
theorem bad_go (q : Table) (ms : List Mo) (hs : (ms.map (·.1)).Pairwise (· < ·)) : ∀ (r pre : List Mo), ms = pre ++ r → goPrev (badOf q (ms.map (·.1))) (pre.filterMap meetOf).getLast? (r.filterMap meetOf) = costGo q pre.getLast? r
  | [], _, _ => rfl
  | m :: r, pre, h => by
    have ih := bad_go q ms hs r (pre ++ [m]) (by rw [h, List.append_assoc]; rfl)
    rw [List.filterMap_append, List.getLast?_concat] at ih
    rw [List.filterMap_cons]
    unfold costGo
    cases hm : meetOf m with
    | none =>
      have e1 : List.filterMap meetOf [m] = [] := by
        rw [List.filterMap_cons, hm]
        rfl
      rw [e1, List.append_nil] at ih
      exact ih
    | some x =>
      have e1 : List.filterMap meetOf [m] = [x] := by
        rw [List.filterMap_cons, hm]
        rfl
      rw [e1, List.getLast?_concat] at ih
      show badOf q (ms.map (·.1)) x (pre.filterMap meetOf).getLast? :: goPrev (badOf q (ms.map (·.1))) (some x) (r.filterMap meetOf) = (x.1, Cp07.price q x + parOf q pre.getLast? x) :: costGo q (some m) r
      rw [ih]
      congr 1
      have hx := meetOf_time hm
      have hs2 := hs
      rw [h, List.map_append, List.map_cons] at hs2
      have hadj := fun u => adj_last u (pre.map (·.1)) (r.map (·.1)) m.1 hs2
      have hts : ms.map (·.1) = pre.map (·.1) ++ m.1 :: r.map (·.1) := by rw [h, List.map_append, List.map_cons]
      have hsp : (pre.map (·.1)).Pairwise (· < ·) := (List.pairwise_append.mp hs2).1
      unfold badOf parOf
      congr 2
      cases hl : pre.getLast? with
      | none =>
        have e0 : pre = [] := List.getLast?_eq_none_iff.mp hl
        subst e0
        rfl
      | some m' =>
        show _ = match meetOf m' with
          | some p => Cp07.parallels q p x
          | none => 0
        cases hm' : meetOf m' with
        | some p' =>
          obtain ⟨pre', e0⟩ := List.getLast?_eq_some_iff.mp hl
          have e2 : (pre.filterMap meetOf).getLast? = some p' := by
            rw [e0, List.filterMap_append]
            have : List.filterMap meetOf [m'] = [p'] := by
              rw [List.filterMap_cons, hm']
              rfl
            rw [this, List.getLast?_concat]
          rw [e2]
          dsimp only
          rw [hts, hx, hadj, if_pos]
          rw [decide_eq_true_eq, List.getLast?_map, hl, meetOf_time hm']
          rfl
        | none =>
          cases hp : (pre.filterMap meetOf).getLast? with
          | none => rfl
          | some p =>
            dsimp only
            rw [hts, hx, hadj, if_neg]
            rw [decide_eq_true_eq, List.getLast?_map, hl]
            intro q2
            exact last_time pre p hp m' hl hm' hsp (Option.some.inj q2).symm
theorem mo_times (a b : Voice) : (moList a b).map (·.1) = Cp07.moments a b := by
  unfold moList
  rw [List.map_map]
  exact List.map_id' _
theorem badness_eq (q : Table) (a b : Voice) : Cp07.badness q a b = (costsOf q a b).filter fun x => x.2 != 0 := by
  unfold costsOf
  have h := bad_go q (moList a b) (by rw [mo_times]; exact moments_lt a b) (moList a b) [] rfl
  have h2 := prev_map (badOf q ((moList a b).map (·.1))) ((moList a b).filterMap meetOf) ((moList a b).filterMap meetOf) [] rfl
  rw [← show goPrev _ none _ = costGo q none (moList a b) from h]
  rw [show goPrev _ none _ = _ from h2.symm, mo_times, ← meetings_eq]
  rfl
theorem foldl_add (l : List Nat) : ∀ k : Nat, l.foldl (· + ·) k = k + l.sum := by
  induction l with
  | nil => intro k; rfl
  | cons x l ih =>
    intro k
    rw [List.foldl_cons, ih, List.sum_cons]
    omega
theorem sum_filter : ∀ l : List (Nat × Nat), ((l.filter fun x => x.2 != 0).map fun x => x.2).sum = (l.map fun x => x.2).sum
  | [] => rfl
  | x :: l => by
    rw [List.filter_cons]
    by_cases h : x.2 = 0
    · rw [if_neg (by simp [h]), sum_filter l, List.map_cons, List.sum_cons, h]
      omega
    · rw [if_pos (by simp [h]), List.map_cons, List.sum_cons, sum_filter l, List.map_cons, List.sum_cons]
theorem cost_eq (q : Table) (a b : Voice) : Cp07.cost q a b = ((costsOf q a b).map fun x => x.2).sum := by
  unfold Cp07.cost
  rw [foldl_add, badness_eq, sum_filter]
  omega
end Fa

set_option Elab.async false
namespace Fa
open Cp07 (Event Line Voice Table)
/-! ### Two voices cost alike either way -/
def swp (m : Mo) : Mo := (m.1, m.2.2, m.2.1)
def swx (x : Nat × Int × Int) : Nat × Int × Int := (x.1, x.2.2, x.2.1)
theorem moments_comm (a b : Voice) : Cp07.moments b a = Cp07.moments a b := sorted_unique (moments_lt b a) (moments_lt a b) fun x => by
  rw [moments_mem, moments_mem, List.mem_append, List.mem_append, or_comm]
theorem moList_comm (a b : Voice) : moList b a = (moList a b).map swp := by
  unfold moList
  rw [moments_comm, List.map_map]
  rfl
theorem meetOf_swp (m : Mo) : meetOf (swp m) = (meetOf m).map swx := by
  obtain ⟨t, u, v⟩ := m
  cases u with
  | none => cases v <;> rfl
  | some u => cases v <;> rfl
theorem left_comm (x y : Int) : Cp07.left x y = Cp07.left y x := by
  unfold Cp07.left
  rw [show (x - y).natAbs = (y - x).natAbs by omega]
theorem price_swx (q : Table) (x : Nat × Int × Int) : Cp07.price q (swx x) = Cp07.price q x := by
  unfold Cp07.price swx
  dsimp only
  rw [left_comm]
theorem par_swx (q : Table) (p x : Nat × Int × Int) : Cp07.parallels q (swx p) (swx x) = Cp07.parallels q p x := by
  unfold Cp07.parallels swx
  dsimp only
  rw [left_comm p.2.2, left_comm x.2.2, Int.mul_comm (x.2.2 - p.2.2)]
theorem parOf_swp (q : Table) (p : Option Mo) (x : Nat × Int × Int) : parOf q (p.map swp) (swx x) = parOf q p x := by
  unfold parOf
  cases p with
  | none => rfl
  | some m =>
    show (match meetOf (swp m) with
      | some p => Cp07.parallels q p (swx x)
      | none => 0) = (match meetOf m with
      | some p => Cp07.parallels q p x
      | none => 0)
    rw [meetOf_swp]
    cases meetOf m with
    | none => rfl
    | some z => exact par_swx q z x
theorem costGo_swp (q : Table) : ∀ (l : List Mo) (p : Option Mo), costGo q (p.map swp) (l.map swp) = costGo q p l
  | [], _ => rfl
  | m :: l, p => by
    have ih := costGo_swp q l (some m)
    show costGo q (p.map swp) (swp m :: l.map swp) = _
    rw [costGo.eq_def q p, costGo.eq_def q (p.map swp)]
    dsimp only
    rw [meetOf_swp]
    cases meetOf m with
    | none => exact ih
    | some x =>
      show ((swx x).1, Cp07.price q (swx x) + parOf q (p.map swp) (swx x)) :: costGo q (some (swp m)) (l.map swp) = _
      rw [price_swx, parOf_swp]
      exact congrArg _ ih
theorem costsOf_comm (q : Table) (a b : Voice) : costsOf q b a = costsOf q a b := by
  unfold costsOf
  rw [moList_comm]
  exact costGo_swp q (moList a b) none
theorem cost_comm (q : Table) (a b : Voice) : Cp07.cost q b a = Cp07.cost q a b := by
  rw [cost_eq, cost_eq, costsOf_comm]
theorem badness_comm (q : Table) (a b : Voice) : Cp07.badness q b a = Cp07.badness q a b := by
  rw [badness_eq, badness_eq, costsOf_comm]
end Fa

set_option Elab.async false
namespace Fa
/-! ### The calls of a request -/
abbrev Cll := Int × List Int
def encCall (d : Cll) : List Int := d.1 :: (d.2.length : Int) :: (d.2 ++ [0])
def encAll : List Cll → List Int
  | [] => []
  | d :: r => encCall d ++ encAll r
theorem encAll_append : ∀ (a b : List Cll), encAll (a ++ b) = encAll a ++ encAll b
  | [], _ => rfl
  | d :: a, b => by
    show encCall d ++ encAll (a ++ b) = (encCall d ++ encAll a) ++ encAll b
    rw [encAll_append a b, List.append_assoc]
theorem form_rows {p : Int} {a : List (Int × Int)} {m : Nat × Nat × Int × Int} {r : List (Int × Int × Nat × Nat)} {k n1 n2 : Nat} {x : Int × Int × Nat × Nat} (h : PyCp08.form p = some (a, m, r, (k, n1, n2, x))) : r = [] ∧ k = 0 ∧ n2 = 0 := by
  unfold PyCp08.form at h
  have pick : ∀ {c : Prop} [Decidable c] {x y : Option (List (Int × Int) × (Nat × Nat × Int × Int) × List (Int × Int × Nat × Nat) × (Nat × Nat × Nat × Int × Int × Nat × Nat))} {q}, (if c then x else y) = some q → x = some q ∨ y = some q := by
    intro c _ x y q h
    by_cases hc : c
    · rw [if_pos hc] at h
      exact .inl h
    · rw [if_neg hc] at h
      exact .inr h
  iterate 13 (rcases pick h with h | h; · (cases h; exact ⟨rfl, rfl, rfl⟩))
  cases h
theorem fits_one {c : List (List Int)} (h : PyCp08.fits c = true) : ∃ p ns, c = [p :: ns] := by
  unfold PyCp08.fits at h
  match c, h with
  | [], h => cases h
  | [] :: _, h => cases h
  | (p :: xs) :: rows, h =>
    dsimp only at h
    cases hf : PyCp08.form p with
    | none =>
      rw [hf] at h
      cases h
    | some q =>
      obtain ⟨a, ⟨m1, m2, lo, hi⟩, r, ⟨k, n1, n2, llo, lhi, l1, l2⟩⟩ := q
      rw [hf] at h
      obtain ⟨er, ek, en⟩ := form_rows hf
      subst er ek en
      simp only [Bool.and_eq_true, decide_eq_true_eq] at h
      have hlen : ((rows.drop 0).take (rows.length - ([] : List (Int × Int × Nat × Nat)).length)).length ≤ 0 := h.1.1.2
      have e0 : rows = [] := by
        rw [List.drop_zero, List.length_nil, Nat.sub_zero, List.take_length] at hlen
        exact List.length_eq_zero_iff.mp (by omega)
      exact ⟨p, xs, by rw [e0]⟩
theorem put_flat : ∀ (ds : List Cll), PyWide.put (ds.map fun d => [d.1 :: d.2]) = encAll ds
  | [] => rfl
  | d :: r => by
    have ih := put_flat r
    show (d.1 :: (PyFlat.putRow d.2 ++ [((0 : Nat) : Int)])) ++ PyWide.put (r.map fun d => [d.1 :: d.2]) = encCall d ++ encAll r
    rw [ih]
    rfl
theorem all_one : ∀ (cs : List (List (List Int))), (∀ c ∈ cs, PyCp08.fits c = true) → ∃ ds : List Cll, cs = ds.map fun d => [d.1 :: d.2]
  | [], _ => ⟨[], rfl⟩
  | c :: cs, h => by
    obtain ⟨ds, e⟩ := all_one cs fun x hx => h x (List.mem_cons_of_mem _ hx)
    obtain ⟨p, ns, e2⟩ := fits_one (h c (List.mem_cons_self ..))
    exact ⟨(p, ns) :: ds, by rw [e, e2]; rfl⟩
/-- one call, played by the specification -/
def stepD (s : Cp08.State) (d : Cll) : Cp08.State × List Int := Cp08Neutral.step s [d.1 :: d.2]
/-- what is answered, from a state on -/
def toldD : Cp08.State → List Cll → List Int
  | _, [] => []
  | s, d :: r => ((stepD s d).2.length : Int) :: ((stepD s d).2 ++ toldD (stepD s d).1 r)
def stateD : Cp08.State → List Cll → Cp08.State
  | s, [] => s
  | s, d :: r => stateD (stepD s d).1 r
theorem told_played : ∀ (ds : List Cll) (s : Cp08.State), PyFlat.told (PyFlat.played Cp08Neutral.step s (ds.map fun d => [d.1 :: d.2])) = toldD s ds
  | [], _ => rfl
  | d :: r, s => by
    have ih := told_played r (stepD s d).1
    show (((stepD s d).2.length : Int) :: (stepD s d).2) ++ PyFlat.told (PyFlat.played Cp08Neutral.step (stepD s d).1 (r.map fun d => [d.1 :: d.2])) = _
    rw [ih]
    rfl
theorem toldD_append : ∀ (a b : List Cll) (s : Cp08.State), toldD s (a ++ b) = toldD s a ++ toldD (stateD s a) b
  | [], _, _ => rfl
  | d :: a, b, s => by
    show ((stepD s d).2.length : Int) :: ((stepD s d).2 ++ toldD (stepD s d).1 (a ++ b)) = (((stepD s d).2.length : Int) :: ((stepD s d).2 ++ toldD (stepD s d).1 a)) ++ toldD (stateD (stepD s d).1 a) b
    rw [toldD_append a b, List.cons_append, List.append_assoc]
theorem stateD_append : ∀ (a b : List Cll) (s : Cp08.State), stateD s (a ++ b) = stateD (stateD s a) b
  | [], _, _ => rfl
  | _ :: a, b, _ => stateD_append a b _
/-- what a request is, where it is asked -/
structure Req (l : List Int) (ds : List Cll) : Prop where
  flat : l = encAll ds
  due : PyCp08.answers l = toldD Cp08.start ds
  few : ds.length ≤ 60
  call : ∀ d ∈ ds, (Cp08Neutral.callOf (d.1 :: d.2)).isSome = true ∧ d.2.length ≤ 59
  short : (PyCp08.answers l).length ≤ 10000000
theorem req_of {l : List Int} (h : PyCp08.answers_asked l = true) : ∃ ds, Req l ds := by
  unfold PyCp08.answers_asked at h
  cases hc : PyCp08.calls l with
  | none =>
    rw [hc] at h
    cases h
  | some cs =>
    rw [hc] at h
    dsimp only at h
    simp only [Bool.and_eq_true] at h
    obtain ⟨⟨⟨⟨_, hfit⟩, h60⟩, hask⟩, hshort⟩ := h
    have hfit2 : ∀ c ∈ cs, PyCp08.fits c = true := List.all_eq_true.mp hfit
    obtain ⟨ds, e⟩ := all_one cs hfit2
    have hput := (PyWide.put_calls _ _ _ hc).1
    refine ⟨ds, ?_, ?_, ?_, ?_, ?_⟩
    · rw [hput, e, put_flat]
    · unfold PyCp08.answers
      rw [hc, e]
      exact told_played ds _
    · have : cs.length ≤ 60 := of_decide_eq_true h60
      rw [e, List.length_map] at this
      exact this
    · intro d hd
      unfold Cp08Neutral.asked at hask
      simp only [Bool.and_eq_true] at hask
      have h1 := List.all_eq_true.mp hask.1 [d.1 :: d.2] (by rw [e]; exact List.mem_map.mpr ⟨d, hd, rfl⟩)
      unfold Cp08Neutral.asked1 at h1
      simp only [Bool.and_eq_true] at h1
      refine ⟨h1.2.2.2, ?_⟩
      have h2 : (d.1 :: d.2).length ≤ 60 := of_decide_eq_true h1.2.2.1
      rw [List.length_cons] at h2
      omega
    · exact of_decide_eq_true hshort
end Fa

set_option Elab.async false
namespace Fa
open Cp07 (Event Line Voice Table)
open Cp08 (Entry Desk)
/-! ### Entries -/
/-- what an entry costs against some others -/
def against (s : Desk) (l : List Entry) (e : Entry) : Nat := ((l.filter fun f => f.voice != e.voice).map fun f => Cp07.cost s.table (Cp08.voiceOf s e) (Cp08.voiceOf s f)).sum
theorem added_eq (s : Desk) (e : Entry) : Cp08.added s e = against s s.entries e := by
  unfold Cp08.added against
  rw [foldl_add, Nat.zero_add]
  congr 1
  refine List.map_congr_left fun f _ => ?_
  exact cost_comm _ _ _
theorem against_cons (s : Desk) (x : Entry) (l : List Entry) (e : Entry) : against s (x :: l) e = (if x.voice != e.voice then Cp07.cost s.table (Cp08.voiceOf s e) (Cp08.voiceOf s x) else 0) + against s l e := by
  unfold against
  rw [List.filter_cons]
  cases x.voice != e.voice with
  | true => rfl
  | false =>
    show _ = 0 + _
    rw [Nat.zero_add]
    rfl
theorem against_snoc (s : Desk) (x : Entry) (l : List Entry) (e : Entry) : against s (l ++ [x]) e = against s l e + (if x.voice != e.voice then Cp07.cost s.table (Cp08.voiceOf s e) (Cp08.voiceOf s x) else 0) := by
  unfold against
  rw [List.filter_append, List.map_append, List.sum_append, List.filter_cons, List.filter_nil]
  cases x.voice != e.voice with
  | true =>
    show _ + (_ + 0) = _
    rfl
  | false => rfl
theorem total_cons (s : Desk) (x : Entry) (l : List Entry) : Cp08.total s (x :: l) = against s l x + Cp08.total s l := by
  show _ + Cp08.total s l = _
  rw [foldl_add, Nat.zero_add]
  rfl
theorem bne_symm (a b : Nat) : (a != b) = (b != a) := by
  by_cases h : a = b
  · subst h
    rfl
  · rw [bne_iff_ne.mpr h, bne_iff_ne.mpr (Ne.symm h)]
theorem total_snoc (s : Desk) (e : Entry) : ∀ l : List Entry, Cp08.total s (l ++ [e]) = Cp08.total s l + against s l e
  | [] => by
    show Cp08.total s [e] = 0 + 0
    rw [total_cons]
    rfl
  | x :: l => by
    rw [List.cons_append, total_cons, total_cons, total_snoc s e l, against_snoc, against_cons, bne_symm e.voice x.voice, cost_comm s.table (Cp08.voiceOf s x) (Cp08.voiceOf s e)]
    omega
theorem total_take {s : Desk} {l : List Entry} {i : Nat} {e : Entry} (h : l[i]? = some e) : Cp08.total s (l.take (i + 1)) = Cp08.total s (l.take i) + against s (l.take i) e := by
  rw [List.take_add_one, h]
  exact total_snoc s e _
/-! ### The best octave -/
def costsAt (s : Desk) (e : Entry) : List Nat := Cp08.octaves.map fun o => Cp08.added s { e with oct := o }
theorem best_five (c0 c1 c2 c3 c4 : Nat) (m j : Nat) (hj : [c0, c1, c2, c3, c4][j]? = some m) (hle : ∀ c ∈ [c0, c1, c2, c3, c4], m ≤ c) (hf : ∀ k c, k < j → [c0, c1, c2, c3, c4][k]? = some c → c ≠ m) :
    List.foldl (fun (p : Int × Nat) (q : Int × Nat) => if q.2 < p.2 then q else p) (0, c0) [(-1, c1), (1, c2), (-2, c3), (2, c4)] = (Cp08.octaves.getD j 0, m) := by
  simp only [List.mem_cons, List.not_mem_nil, or_false, forall_eq_or_imp, forall_eq] at hle
  obtain ⟨l0, l1, l2, l3, l4⟩ := hle
  match j, hj, hf with
  | 0, hj, hf =>
    have e : c0 = m := Option.some.inj hj
    subst e
    simp only [List.foldl]
    rw [if_neg (show ¬ c1 < c0 by omega), if_neg (show ¬ c2 < c0 by omega), if_neg (show ¬ c3 < c0 by omega), if_neg (show ¬ c4 < c0 by omega)]
    rfl
  | 1, hj, hf =>
    have e : c1 = m := Option.some.inj hj
    subst e
    have h0 := hf 0 c0 (by decide) rfl
    simp only [List.foldl]
    rw [if_pos (show c1 < c0 by omega), if_neg (show ¬ c2 < c1 by omega), if_neg (show ¬ c3 < c1 by omega), if_neg (show ¬ c4 < c1 by omega)]
    rfl
  | 2, hj, hf =>
    have e : c2 = m := Option.some.inj hj
    subst e
    have h0 := hf 0 c0 (by decide) rfl
    have h1 := hf 1 c1 (by decide) rfl
    simp only [List.foldl]
    by_cases a1 : c1 < c0
    · rw [if_pos a1, if_pos (show c2 < c1 by omega), if_neg (show ¬ c3 < c2 by omega), if_neg (show ¬ c4 < c2 by omega)]
      rfl
    · rw [if_neg a1, if_pos (show c2 < c0 by omega), if_neg (show ¬ c3 < c2 by omega), if_neg (show ¬ c4 < c2 by omega)]
      rfl
  | 3, hj, hf =>
    have e : c3 = m := Option.some.inj hj
    subst e
    have h0 := hf 0 c0 (by decide) rfl
    have h1 := hf 1 c1 (by decide) rfl
    have h2 := hf 2 c2 (by decide) rfl
    simp only [List.foldl]
    repeat' split
    all_goals first
      | rfl
      | (exfalso; simp_all; omega)
  | 4, hj, hf =>
    have e : c4 = m := Option.some.inj hj
    subst e
    have h0 := hf 0 c0 (by decide) rfl
    have h1 := hf 1 c1 (by decide) rfl
    have h2 := hf 2 c2 (by decide) rfl
    have h3 := hf 3 c3 (by decide) rfl
    simp only [List.foldl]
    repeat' split
    all_goals first
      | rfl
      | (exfalso; simp_all; omega)
  | _ + 5, hj, _ => cases hj
theorem best_of {s : Desk} {e : Entry} {m j : Nat} (hj : (costsAt s e)[j]? = some m) (hle : ∀ c ∈ costsAt s e, m ≤ c) (hf : ∀ k c, k < j → (costsAt s e)[k]? = some c → c ≠ m) :
    Cp08.best s e = (Cp08.octaves.getD j 0, m) := best_five _ _ _ _ _ m j hj hle hf
end Fa

set_option Elab.async false
set_option linter.all false
set_option maxRecDepth 100000
set_option maxHeartbeats 4000000
namespace Fa
open PySem PySem.Spec PyProof.Rows L2
open Cp07 (Line Voice Table)
/-! ### The text by places -/
def topS (i : Nat) : Stmt := PySem.Challenge.pw_fugueanswers_s01_answers.main.body.getD i (.Pass ⟨0, 0, 0, 0⟩)
abbrev s_is_step : Stmt := topS 12
abbrev N_is_step : List Str := ["number"]
theorem sc_is_step : FnScope ["number"] ["number"] (defScope s_is_step) := ⟨rfl, rfl, rfl, by decide +kernel, rfl, by decide +kernel, by decide +kernel⟩
/- level 1, number 0 -/
abbrev s_is_length : Stmt := topS 13
abbrev N_is_length : List Str := ["number"]
theorem sc_is_length : FnScope ["number"] ["number"] (defScope s_is_length) := ⟨rfl, rfl, rfl, by decide +kernel, rfl, by decide +kernel, by decide +kernel⟩
/- level 1, number 0 -/
abbrev s_read_event : Stmt := topS 14
abbrev N_read_event : List Str := ["numbers", "at", "left"]
theorem sc_read_event : FnScope ["numbers", "at", "left"] ["numbers", "at"] (defScope s_read_event) := ⟨rfl, rfl, rfl, by decide +kernel, rfl, by decide +kernel, by decide +kernel⟩
/- level 2, numbers 0, at 1, left 2 -/
abbrev s_read_events : Stmt := topS 15
abbrev N_read_events : List Str := ["numbers", "events", "at", "event"]
theorem sc_read_events : FnScope ["numbers", "events", "at", "event"] ["numbers"] (defScope s_read_events) := ⟨rfl, rfl, rfl, by decide +kernel, rfl, by decide +kernel, by decide +kernel⟩
/- level 3, numbers 0, events 1, at 2, event 3 -/
abbrev s_tell_events : Stmt := topS 16
abbrev N_tell_events : List Str := ["events", "numbers", "step", "length"]
theorem sc_tell_events : FnScope ["events", "numbers", "step", "length"] ["events"] (defScope s_tell_events) := ⟨rfl, rfl, rfl, by decide +kernel, rfl, by decide +kernel, by decide +kernel⟩
/- level 1, events 0, numbers 1, step 2, length 3 -/
abbrev s_line_length : Stmt := topS 17
abbrev N_line_length : List Str := ["events", "step", "length"]
theorem sc_line_length : FnScope ["events", "step", "length"] ["events"] (defScope s_line_length) := ⟨rfl, rfl, rfl, by decide +kernel, rfl, by decide +kernel, by decide +kernel⟩
/- level 1, events 0, step 1, length 2 -/
abbrev s_degree : Stmt := topS 18
abbrev N_degree : List Str := ["step", "tonic"]
theorem sc_degree : FnScope ["step", "tonic"] ["step", "tonic"] (defScope s_degree) := ⟨rfl, rfl, rfl, by decide +kernel, rfl, by decide +kernel, by decide +kernel⟩
/- level 1, step 0, tonic 1 -/
abbrev s_head_size : Stmt := topS 19
abbrev N_head_size : List Str := ["events", "tonic", "size", "step", "length"]
theorem sc_head_size : FnScope ["events", "tonic", "size", "step", "length"] ["events", "tonic"] (defScope s_head_size) := ⟨rfl, rfl, rfl, by decide +kernel, rfl, by decide +kernel, by decide +kernel⟩
/- level 2, events 0, tonic 1, size 2, step 3, length 4 -/
abbrev s_raised_event : Stmt := topS 20
abbrev N_raised_event : List Str := ["event", "steps"]
theorem sc_raised_event : FnScope ["event", "steps"] ["event", "steps"] (defScope s_raised_event) := ⟨rfl, rfl, rfl, by decide +kernel, rfl, by decide +kernel, by decide +kernel⟩
/- level 1, event 0, steps 1 -/
abbrev s_raised : Stmt := topS 21
abbrev N_raised : List Str := ["events", "steps", "event"]
theorem sc_raised : FnScope ["events", "steps", "event"] ["events", "steps"] (defScope s_raised) := ⟨rfl, rfl, rfl, by decide +kernel, rfl, by decide +kernel, by decide +kernel⟩
/- level 2, events 0, steps 1, event 2 -/
abbrev s_is_dominant : Stmt := topS 22
abbrev N_is_dominant : List Str := ["event", "tonic"]
theorem sc_is_dominant : FnScope ["event", "tonic"] ["event", "tonic"] (defScope s_is_dominant) := ⟨rfl, rfl, rfl, by decide +kernel, rfl, by decide +kernel, by decide +kernel⟩
/- level 2, event 0, tonic 1 -/
abbrev s_answer_of : Stmt := topS 23
abbrev N_answer_of : List Str := ["events", "tonic", "size", "answered", "event", "steps"]
theorem sc_answer_of : FnScope ["events", "tonic", "size", "answered", "event", "steps"] ["events", "tonic"] (defScope s_answer_of) := ⟨rfl, rfl, rfl, by decide +kernel, rfl, by decide +kernel, by decide +kernel⟩
/- level 3, events 0, tonic 1, size 2, answered 3, event 4, steps 5 -/
abbrev s_changed_by_answer : Stmt := topS 24
abbrev N_changed_by_answer : List Str := ["events", "tonic", "head", "event"]
theorem sc_changed_by_answer : FnScope ["events", "tonic", "head", "event"] ["events", "tonic"] (defScope s_changed_by_answer) := ⟨rfl, rfl, rfl, by decide +kernel, rfl, by decide +kernel, by decide +kernel⟩
/- level 3, events 0, tonic 1, head 2, event 3 -/
abbrev s_Moment_init : Stmt := inClass (topS 27) 0
abbrev N_Moment_init : List Str := ["self", "time", "first", "second"]
theorem sc_Moment_init : FnScope ["self", "time", "first", "second"] ["self", "time", "first", "second"] (defScope s_Moment_init) := ⟨rfl, rfl, rfl, by decide +kernel, rfl, by decide +kernel, by decide +kernel⟩
/- level 1, self 0, time 1, first 2, second 3 -/
abbrev s_Moment_is_meeting : Stmt := inClass (topS 27) 1
abbrev N_Moment_is_meeting : List Str := ["self"]
theorem sc_Moment_is_meeting : FnScope ["self"] ["self"] (defScope s_Moment_is_meeting) := ⟨rfl, rfl, rfl, by decide +kernel, rfl, by decide +kernel, by decide +kernel⟩
/- level 1, self 0 -/
abbrev s_Moment_gap : Stmt := inClass (topS 27) 2
abbrev N_Moment_gap : List Str := ["self"]
theorem sc_Moment_gap : FnScope ["self"] ["self"] (defScope s_Moment_gap) := ⟨rfl, rfl, rfl, by decide +kernel, rfl, by decide +kernel, by decide +kernel⟩
/- level 1, self 0 -/
abbrev s_placed : Stmt := topS 28
abbrev N_placed : List Str := ["events", "start", "voice", "begin", "step", "length"]
theorem sc_placed : FnScope ["events", "start", "voice", "begin", "step", "length"] ["events", "start"] (defScope s_placed) := ⟨rfl, rfl, rfl, by decide +kernel, rfl, by decide +kernel, by decide +kernel⟩
/- level 1, events 0, start 1, voice 2, begin 3, step 4, length 5 -/
abbrev s_step_at : Stmt := topS 29
abbrev N_step_at : List Str := ["voice", "time", "begin", "end", "step"]
theorem sc_step_at : FnScope ["voice", "time", "begin", "end", "step"] ["voice", "time"] (defScope s_step_at) := ⟨rfl, rfl, rfl, by decide +kernel, rfl, by decide +kernel, by decide +kernel⟩
/- level 1, voice 0, time 1, begin 2, end 3, step 4 -/
abbrev s_moments_of : Stmt := topS 30
abbrev N_moments_of : List Str := ["first", "second", "begins", "event", "time"]
theorem sc_moments_of : FnScope ["first", "second", "begins", "event", "time"] ["first", "second"] (defScope s_moments_of) := ⟨rfl, rfl, rfl, by decide +kernel, rfl, by decide +kernel, by decide +kernel⟩
/- level 3, first 0, second 1, begins 2, event 3, time 4 -/
abbrev s_meetings_of : Stmt := topS 31
abbrev N_meetings_of : List Str := ["first", "second", "moment"]
theorem sc_meetings_of : FnScope ["first", "second", "moment"] ["first", "second"] (defScope s_meetings_of) := ⟨rfl, rfl, rfl, by decide +kernel, rfl, by decide +kernel, by decide +kernel⟩
/- level 4, first 0, second 1, moment 2 -/
abbrev s_are_parallels : Stmt := topS 32
abbrev N_are_parallels : List Str := ["ahead", "meeting", "both_up", "both_down"]
theorem sc_are_parallels : FnScope ["ahead", "meeting", "both_up", "both_down"] ["ahead", "meeting"] (defScope s_are_parallels) := ⟨rfl, rfl, rfl, by decide +kernel, rfl, by decide +kernel, by decide +kernel⟩
/- level 2, ahead 0, meeting 1, both_up 2, both_down 3 -/
abbrev s_meeting_costs : Stmt := topS 33
abbrev N_meeting_costs : List Str := ["first", "second", "prices", "costs", "ahead", "moment", "cost"]
theorem sc_meeting_costs : FnScope ["first", "second", "prices", "costs", "ahead", "moment", "cost"] ["first", "second", "prices"] (defScope s_meeting_costs) := ⟨rfl, rfl, rfl, by decide +kernel, rfl, by decide +kernel, by decide +kernel⟩
/- level 4, first 0, second 1, prices 2, costs 3, ahead 4, moment 5, cost 6 -/
abbrev s_voices_cost : Stmt := topS 34
abbrev N_voices_cost : List Str := ["first", "second", "prices", "time", "cost"]
theorem sc_voices_cost : FnScope ["first", "second", "prices", "time", "cost"] ["first", "second", "prices"] (defScope s_voices_cost) := ⟨rfl, rfl, rfl, by decide +kernel, rfl, by decide +kernel, by decide +kernel⟩
/- level 5, first 0, second 1, prices 2, time 3, cost 4 -/
abbrev s_times_above : Stmt := topS 35
abbrev N_times_above : List Str := ["first", "second", "meeting"]
theorem sc_times_above : FnScope ["first", "second", "meeting"] ["first", "second"] (defScope s_times_above) := ⟨rfl, rfl, rfl, by decide +kernel, rfl, by decide +kernel, by decide +kernel⟩
/- level 5, first 0, second 1, meeting 2 -/
abbrev s_Entry_init : Stmt := inClass (topS 40) 0
abbrev N_Entry_init : List Str := ["self", "kind", "time", "octaves", "voice", "events"]
theorem sc_Entry_init : FnScope ["self", "kind", "time", "octaves", "voice", "events"] ["self", "kind", "time", "octaves", "voice", "events"] (defScope s_Entry_init) := ⟨rfl, rfl, rfl, by decide +kernel, rfl, by decide +kernel, by decide +kernel⟩
/- level 3, self 0, kind 1, time 2, octaves 3, voice 4, events 5 -/
abbrev s_Entry_numbers_told : Stmt := inClass (topS 40) 1
abbrev N_Entry_numbers_told : List Str := ["self"]
theorem sc_Entry_numbers_told : FnScope ["self"] ["self"] (defScope s_Entry_numbers_told) := ⟨rfl, rfl, rfl, by decide +kernel, rfl, by decide +kernel, by decide +kernel⟩
/- level 1, self 0 -/
abbrev s_is_place : Stmt := topS 41
abbrev N_is_place : List Str := ["time", "octaves", "voice"]
theorem sc_is_place : FnScope ["time", "octaves", "voice"] ["time", "octaves", "voice"] (defScope s_is_place) := ⟨rfl, rfl, rfl, by decide +kernel, rfl, by decide +kernel, by decide +kernel⟩
/- level 1, time 0, octaves 1, voice 2 -/
abbrev s_overlap : Stmt := topS 42
abbrev N_overlap : List Str := ["first", "second"]
theorem sc_overlap : FnScope ["first", "second"] ["first", "second"] (defScope s_overlap) := ⟨rfl, rfl, rfl, by decide +kernel, rfl, by decide +kernel, by decide +kernel⟩
/- level 1, first 0, second 1 -/
abbrev s_cost_against : Stmt := topS 43
abbrev N_cost_against : List Str := ["entry", "others", "prices", "other"]
theorem sc_cost_against : FnScope ["entry", "others", "prices", "other"] ["entry", "others", "prices"] (defScope s_cost_against) := ⟨rfl, rfl, rfl, by decide +kernel, rfl, by decide +kernel, by decide +kernel⟩
/- level 6, entry 0, others 1, prices 2, other 3 -/
abbrev s_cost_of_all : Stmt := topS 44
abbrev N_cost_of_all : List Str := ["entries", "prices", "at", "entry"]
theorem sc_cost_of_all : FnScope ["entries", "prices", "at", "entry"] ["entries", "prices"] (defScope s_cost_of_all) := ⟨rfl, rfl, rfl, by decide +kernel, rfl, by decide +kernel, by decide +kernel⟩
/- level 7, entries 0, prices 1, at 2, entry 3 -/
abbrev s_bad_meetings : Stmt := topS 45
abbrev N_bad_meetings : List Str := ["first", "second", "prices", "meeting"]
theorem sc_bad_meetings : FnScope ["first", "second", "prices", "meeting"] ["first", "second", "prices"] (defScope s_bad_meetings) := ⟨rfl, rfl, rfl, by decide +kernel, rfl, by decide +kernel, by decide +kernel⟩
/- level 5, first 0, second 1, prices 2, meeting 3 -/
abbrev s_Prices_init : Stmt := inClass (topS 54) 0
abbrev N_Prices_init : List Str := ["self", "numbers"]
theorem sc_Prices_init : FnScope ["self", "numbers"] ["self", "numbers"] (defScope s_Prices_init) := ⟨rfl, rfl, rfl, by decide +kernel, rfl, by decide +kernel, by decide +kernel⟩
/- level 1, self 0, numbers 1 -/
abbrev s_Prices_gap_price : Stmt := inClass (topS 54) 1
abbrev N_Prices_gap_price : List Str := ["self", "time", "gap"]
theorem sc_Prices_gap_price : FnScope ["self", "time", "gap"] ["self", "time", "gap"] (defScope s_Prices_gap_price) := ⟨rfl, rfl, rfl, by decide +kernel, rfl, by decide +kernel, by decide +kernel⟩
/- level 1, self 0, time 1, gap 2 -/
abbrev s_are_prices : Stmt := topS 55
abbrev N_are_prices : List Str := ["numbers", "price"]
theorem sc_are_prices : FnScope ["numbers", "price"] ["numbers"] (defScope s_are_prices) := ⟨rfl, rfl, rfl, by decide +kernel, rfl, by decide +kernel, by decide +kernel⟩
/- level 1, numbers 0, price 1 -/
abbrev s_is_kind : Stmt := topS 72
abbrev N_is_kind : List Str := ["number"]
theorem sc_is_kind : FnScope ["number"] ["number"] (defScope s_is_kind) := ⟨rfl, rfl, rfl, by decide +kernel, rfl, by decide +kernel, by decide +kernel⟩
/- level 1, number 0 -/
abbrev s_Piece_init : Stmt := inClass (topS 73) 0
abbrev N_Piece_init : List Str := ["self"]
theorem sc_Piece_init : FnScope ["self"] ["self"] (defScope s_Piece_init) := ⟨rfl, rfl, rfl, by decide +kernel, rfl, by decide +kernel, by decide +kernel⟩
/- level 3, self 0 -/
abbrev s_Piece_take_subject : Stmt := inClass (topS 73) 1
abbrev N_Piece_take_subject : List Str := ["self", "tonic", "numbers", "events"]
theorem sc_Piece_take_subject : FnScope ["self", "tonic", "numbers", "events"] ["self", "tonic", "numbers"] (defScope s_Piece_take_subject) := ⟨rfl, rfl, rfl, by decide +kernel, rfl, by decide +kernel, by decide +kernel⟩
/- level 4, self 0, tonic 1, numbers 2, events 3 -/
abbrev s_Piece_take_counter : Stmt := inClass (topS 73) 2
abbrev N_Piece_take_counter : List Str := ["self", "numbers", "events"]
theorem sc_Piece_take_counter : FnScope ["self", "numbers", "events"] ["self", "numbers"] (defScope s_Piece_take_counter) := ⟨rfl, rfl, rfl, by decide +kernel, rfl, by decide +kernel, by decide +kernel⟩
/- level 7, self 0, numbers 1, events 2 -/
abbrev s_Piece_take_prices : Stmt := inClass (topS 73) 3
abbrev N_Piece_take_prices : List Str := ["self", "numbers"]
theorem sc_Piece_take_prices : FnScope ["self", "numbers"] ["self", "numbers"] (defScope s_Piece_take_prices) := ⟨rfl, rfl, rfl, by decide +kernel, rfl, by decide +kernel, by decide +kernel⟩
/- level 3, self 0, numbers 1 -/
abbrev s_Piece_tell_answer : Stmt := inClass (topS 73) 4
abbrev N_Piece_tell_answer : List Str := ["self", "changed"]
theorem sc_Piece_tell_answer : FnScope ["self", "changed"] ["self"] (defScope s_Piece_tell_answer) := ⟨rfl, rfl, rfl, by decide +kernel, rfl, by decide +kernel, by decide +kernel⟩
/- level 4, self 0, changed 1 -/
abbrev s_Piece_tell_line : Stmt := inClass (topS 73) 5
abbrev N_Piece_tell_line : List Str := ["self", "kind", "events"]
theorem sc_Piece_tell_line : FnScope ["self", "kind", "events"] ["self", "kind"] (defScope s_Piece_tell_line) := ⟨rfl, rfl, rfl, by decide +kernel, rfl, by decide +kernel, by decide +kernel⟩
/- level 5, self 0, kind 1, events 2 -/
abbrev s_Piece_tell_swap : Stmt := inClass (topS 73) 6
abbrev N_Piece_tell_swap : List Str := ["self", "n", "times"]
theorem sc_Piece_tell_swap : FnScope ["self", "n", "times"] ["self", "n"] (defScope s_Piece_tell_swap) := ⟨rfl, rfl, rfl, by decide +kernel, rfl, by decide +kernel, by decide +kernel⟩
/- level 7, self 0, n 1, times 2 -/
abbrev s_Piece_tell_swaps : Stmt := inClass (topS 73) 7
abbrev N_Piece_tell_swaps : List Str := ["self", "told", "n"]
theorem sc_Piece_tell_swaps : FnScope ["self", "told", "n"] ["self"] (defScope s_Piece_tell_swaps) := ⟨rfl, rfl, rfl, by decide +kernel, rfl, by decide +kernel, by decide +kernel⟩
/- level 7, self 0, told 1, n 2 -/
abbrev s_Piece_take_entry : Stmt := inClass (topS 73) 8
abbrev N_Piece_take_entry : List Str := ["self", "kind", "time", "octaves", "voice", "refusal", "entry", "cost"]
theorem sc_Piece_take_entry : FnScope ["self", "kind", "time", "octaves", "voice", "refusal", "entry", "cost"] ["self", "kind", "time", "octaves", "voice"] (defScope s_Piece_take_entry) := ⟨rfl, rfl, rfl, by decide +kernel, rfl, by decide +kernel, by decide +kernel⟩
/- level 7, self 0, kind 1, time 2, octaves 3, voice 4, refusal 5, entry 6, cost 7 -/
abbrev s_Piece_tell_best : Stmt := inClass (topS 73) 9
abbrev N_Piece_tell_best : List Str := ["self", "kind", "time", "voice", "refusal", "choices", "costs", "least", "octaves", "entry"]
theorem sc_Piece_tell_best : FnScope ["self", "kind", "time", "voice", "refusal", "choices", "costs", "least", "octaves", "entry"] ["self", "kind", "time", "voice"] (defScope s_Piece_tell_best) := ⟨rfl, rfl, rfl, by decide +kernel, rfl, by decide +kernel, by decide +kernel⟩
/- level 7, self 0, kind 1, time 2, voice 3, refusal 4, choices 5, costs 6, least 7, octaves 8, entry 9 -/
abbrev s_Piece_drop_entry : Stmt := inClass (topS 73) 10
abbrev N_Piece_drop_entry : List Str := ["self"]
theorem sc_Piece_drop_entry : FnScope ["self"] ["self"] (defScope s_Piece_drop_entry) := ⟨rfl, rfl, rfl, by decide +kernel, rfl, by decide +kernel, by decide +kernel⟩
/- level 1, self 0 -/
abbrev s_Piece_tell_cost : Stmt := inClass (topS 73) 11
abbrev N_Piece_tell_cost : List Str := ["self"]
theorem sc_Piece_tell_cost : FnScope ["self"] ["self"] (defScope s_Piece_tell_cost) := ⟨rfl, rfl, rfl, by decide +kernel, rfl, by decide +kernel, by decide +kernel⟩
/- level 8, self 0 -/
abbrev s_Piece_tell_bad : Stmt := inClass (topS 73) 12
abbrev N_Piece_tell_bad : List Str := ["self", "i", "j", "meetings", "told", "time", "cost"]
theorem sc_Piece_tell_bad : FnScope ["self", "i", "j", "meetings", "told", "time", "cost"] ["self", "i", "j"] (defScope s_Piece_tell_bad) := ⟨rfl, rfl, rfl, by decide +kernel, rfl, by decide +kernel, by decide +kernel⟩
/- level 6, self 0, i 1, j 2, meetings 3, told 4, time 5, cost 6 -/
abbrev s_Piece_tell_entries : Stmt := inClass (topS 73) 13
abbrev N_Piece_tell_entries : List Str := ["self", "told", "entry"]
theorem sc_Piece_tell_entries : FnScope ["self", "told", "entry"] ["self"] (defScope s_Piece_tell_entries) := ⟨rfl, rfl, rfl, by decide +kernel, rfl, by decide +kernel, by decide +kernel⟩
/- level 2, self 0, told 1, entry 2 -/
abbrev s_Piece_is_entry : Stmt := inClass (topS 73) 14
abbrev N_Piece_is_entry : List Str := ["self", "number"]
theorem sc_Piece_is_entry : FnScope ["self", "number"] ["self", "number"] (defScope s_Piece_is_entry) := ⟨rfl, rfl, rfl, by decide +kernel, rfl, by decide +kernel, by decide +kernel⟩
/- level 1, self 0, number 1 -/
abbrev s_Piece_made_entry : Stmt := inClass (topS 73) 15
abbrev N_Piece_made_entry : List Str := ["self", "kind", "time", "octaves", "voice"]
theorem sc_Piece_made_entry : FnScope ["self", "kind", "time", "octaves", "voice"] ["self", "kind", "time", "octaves", "voice"] (defScope s_Piece_made_entry) := ⟨rfl, rfl, rfl, by decide +kernel, rfl, by decide +kernel, by decide +kernel⟩
/- level 5, self 0, kind 1, time 2, octaves 3, voice 4 -/
abbrev s_Piece_entry_refusal : Stmt := inClass (topS 73) 16
abbrev N_Piece_entry_refusal : List Str := ["self", "kind", "time", "octaves", "voice", "entry", "other"]
theorem sc_Piece_entry_refusal : FnScope ["self", "kind", "time", "octaves", "voice", "entry", "other"] ["self", "kind", "time", "octaves", "voice"] (defScope s_Piece_entry_refusal) := ⟨rfl, rfl, rfl, by decide +kernel, rfl, by decide +kernel, by decide +kernel⟩
/- level 6, self 0, kind 1, time 2, octaves 3, voice 4, entry 5, other 6 -/
abbrev s_Piece_line_of_kind : Stmt := inClass (topS 73) 17
abbrev N_Piece_line_of_kind : List Str := ["self", "kind"]
theorem sc_Piece_line_of_kind : FnScope ["self", "kind"] ["self", "kind"] (defScope s_Piece_line_of_kind) := ⟨rfl, rfl, rfl, by decide +kernel, rfl, by decide +kernel, by decide +kernel⟩
/- level 4, self 0, kind 1 -/
abbrev s_Piece_lowered_counter : Stmt := inClass (topS 73) 18
abbrev N_Piece_lowered_counter : List Str := ["self", "steps"]
theorem sc_Piece_lowered_counter : FnScope ["self", "steps"] ["self", "steps"] (defScope s_Piece_lowered_counter) := ⟨rfl, rfl, rfl, by decide +kernel, rfl, by decide +kernel, by decide +kernel⟩
/- level 3, self 0, steps 1 -/
abbrev s_Piece_cost_lowered : Stmt := inClass (topS 73) 19
abbrev N_Piece_cost_lowered : List Str := ["self", "steps"]
theorem sc_Piece_cost_lowered : FnScope ["self", "steps"] ["self", "steps"] (defScope s_Piece_cost_lowered) := ⟨rfl, rfl, rfl, by decide +kernel, rfl, by decide +kernel, by decide +kernel⟩
/- level 6, self 0, steps 1 -/
abbrev s_Piece_times_still_above : Stmt := inClass (topS 73) 20
abbrev N_Piece_times_still_above : List Str := ["self", "steps"]
theorem sc_Piece_times_still_above : FnScope ["self", "steps"] ["self", "steps"] (defScope s_Piece_times_still_above) := ⟨rfl, rfl, rfl, by decide +kernel, rfl, by decide +kernel, by decide +kernel⟩
/- level 6, self 0, steps 1 -/
abbrev s_read_calls : Stmt := topS 88
abbrev N_read_calls : List Str := ["calls", "found", "at", "begin", "end"]
theorem sc_read_calls : FnScope ["calls", "found", "at", "begin", "end"] ["calls"] (defScope s_read_calls) := ⟨rfl, rfl, rfl, by decide +kernel, rfl, by decide +kernel, by decide +kernel⟩
/- level 1, calls 0, found 1, at 2, begin 3, end 4 -/
abbrev s_answer_call : Stmt := topS 89
abbrev N_answer_call : List Str := ["piece", "call", "numbers"]
theorem sc_answer_call : FnScope ["piece", "call", "numbers"] ["piece", "call", "numbers"] (defScope s_answer_call) := ⟨rfl, rfl, rfl, by decide +kernel, rfl, by decide +kernel, by decide +kernel⟩
/- level 9, piece 0, call 1, numbers 2 -/
abbrev s_answers : Stmt := topS 90
abbrev N_answers : List Str := ["calls", "piece", "told", "call", "numbers", "answered"]
theorem sc_answers : FnScope ["calls", "piece", "told", "call", "numbers", "answered"] ["calls"] (defScope s_answers) := ⟨rfl, rfl, rfl, by decide +kernel, rfl, by decide +kernel, by decide +kernel⟩
/- level 10, calls 0, piece 1, told 2, call 3, numbers 4, answered 5 -/
/-! ### What the top has written -/
def Cst (mg : Str → Option Value) (x : Str) (n : Int) : Prop := ∃ t, mg x = some (.int n t)
structure At where
  PARALLEL_GAPS : Addr
  FIRST_PRICES : Addr
  OCTAVES_TO_CHOOSE : Addr
  Moment : Addr
  Entry : Addr
  Prices : Addr
  Piece : Addr
structure Txt (K : PySem.W.Frag) (mg : Str → Option Value) (A : At) : Prop where
  c_STEPS_OF_AN_OCTAVE : Cst mg "STEPS_OF_AN_OCTAVE" (7)
  c_FIFTH : Cst mg "FIFTH" (4)
  c_FIFTH_OF_A_DOMINANT : Cst mg "FIFTH_OF_A_DOMINANT" (3)
  c_TONIC_DEGREE : Cst mg "TONIC_DEGREE" (0)
  c_DOMINANT_DEGREE : Cst mg "DOMINANT_DEGREE" (4)
  c_HIGHEST_STEP : Cst mg "HIGHEST_STEP" (69)
  c_LONGEST_LENGTH : Cst mg "LONGEST_LENGTH" (512)
  c_REST : Cst mg "REST" (0)
  c_NOTE : Cst mg "NOTE" (1)
  c_NUMBERS_OF_A_REST : Cst mg "NUMBERS_OF_A_REST" (2)
  c_NUMBERS_OF_A_NOTE : Cst mg "NUMBERS_OF_A_NOTE" (3)
  c_LAST_TIME : Cst mg "LAST_TIME" (8192)
  c_MOST_OCTAVES : Cst mg "MOST_OCTAVES" (4)
  c_LAST_VOICE : Cst mg "LAST_VOICE" (3)
  c_HOW_MANY_NUMBERS : Cst mg "HOW_MANY_NUMBERS" (16)
  c_OFF_BEAT_FROM : Cst mg "OFF_BEAT_FROM" (7)
  c_PARALLELS_AT : Cst mg "PARALLELS_AT" (14)
  c_BEAT_AT : Cst mg "BEAT_AT" (15)
  c_HIGHEST_PRICE : Cst mg "HIGHEST_PRICE" (100)
  c_LONGEST_BEAT : Cst mg "LONGEST_BEAT" (512)
  c_FIRST_TONIC : Cst mg "FIRST_TONIC" (28)
  c_MOST_EVENTS : Cst mg "MOST_EVENTS" (16)
  c_LAST_SWAP : Cst mg "LAST_SWAP" (22)
  c_MOST_ENTRIES : Cst mg "MOST_ENTRIES" (8)
  c_SUBJECT_KIND : Cst mg "SUBJECT_KIND" (0)
  c_ANSWER_KIND : Cst mg "ANSWER_KIND" (1)
  c_COUNTER_KIND : Cst mg "COUNTER_KIND" (2)
  c_RAISED_COUNTER_KIND : Cst mg "RAISED_COUNTER_KIND" (3)
  c_OUT_OF_RANGE : Cst mg "OUT_OF_RANGE" (-1)
  c_NO_LIST_OF_EVENTS : Cst mg "NO_LIST_OF_EVENTS" (-2)
  c_NO_ENTRY : Cst mg "NO_ENTRY" (-3)
  c_OVERLAP : Cst mg "OVERLAP" (-4)
  c_WRONG_COUNT : Cst mg "WRONG_COUNT" (-5)
  c_NO_LINE : Cst mg "NO_LINE" (-7)
  c_SUBJECT_CALL : Cst mg "SUBJECT_CALL" (1)
  c_COUNTER_CALL : Cst mg "COUNTER_CALL" (2)
  c_PRICES_CALL : Cst mg "PRICES_CALL" (3)
  c_ANSWER_CALL : Cst mg "ANSWER_CALL" (4)
  c_LINE_CALL : Cst mg "LINE_CALL" (5)
  c_SWAP_CALL : Cst mg "SWAP_CALL" (6)
  c_SWAPS_CALL : Cst mg "SWAPS_CALL" (7)
  c_ENTER_CALL : Cst mg "ENTER_CALL" (8)
  c_BEST_CALL : Cst mg "BEST_CALL" (9)
  c_DROP_CALL : Cst mg "DROP_CALL" (10)
  c_COST_CALL : Cst mg "COST_CALL" (11)
  c_BAD_CALL : Cst mg "BAD_CALL" (12)
  c_ENTRIES_CALL : Cst mg "ENTRIES_CALL" (13)
  t_PARALLEL_GAPS : mg "PARALLEL_GAPS" = some (.ref A.PARALLEL_GAPS)
  w_PARALLEL_GAPS : ∀ H : Hp, SqT K H A.PARALLEL_GAPS ([0, 4].map V.int)
  t_FIRST_PRICES : mg "FIRST_PRICES" = some (.ref A.FIRST_PRICES)
  w_FIRST_PRICES : ∀ H : Hp, SqT K H A.FIRST_PRICES ([0, 10, 0, 6, 0, 0, 10, 0, 3, 0, 2, 0, 0, 3, 8, 16].map V.int)
  t_OCTAVES_TO_CHOOSE : mg "OCTAVES_TO_CHOOSE" = some (.ref A.OCTAVES_TO_CHOOSE)
  w_OCTAVES_TO_CHOOSE : ∀ H : Hp, SqT K H A.OCTAVES_TO_CHOOSE ([0, -1, 1, -2, 2].map V.int)
  b_abs : mg "abs" = none
  b_all : mg "all" = none
  b_any : mg "any" = none
  b_enumerate : mg "enumerate" = none
  b_len : mg "len" = none
  b_min : mg "min" = none
  b_range : mg "range" = none
  b_set : mg "set" = none
  b_sorted : mg "sorted" = none
  b_sum : mg "sum" = none
  cl_Moment : Cls K A.Moment
  n_Moment_first : NoAttr K A.Moment "first"
  n_Moment_second : NoAttr K A.Moment "second"
  n_Moment_time : NoAttr K A.Moment "time"
  cl_Entry : Cls K A.Entry
  n_Entry_end : NoAttr K A.Entry "end"
  n_Entry_kind : NoAttr K A.Entry "kind"
  n_Entry_octaves : NoAttr K A.Entry "octaves"
  n_Entry_part : NoAttr K A.Entry "part"
  n_Entry_time : NoAttr K A.Entry "time"
  n_Entry_voice : NoAttr K A.Entry "voice"
  cl_Prices : Cls K A.Prices
  n_Prices_beat : NoAttr K A.Prices "beat"
  n_Prices_off_beat : NoAttr K A.Prices "off_beat"
  n_Prices_on_beat : NoAttr K A.Prices "on_beat"
  n_Prices_parallels : NoAttr K A.Prices "parallels"
  cl_Piece : Cls K A.Piece
  n_Piece_counter : NoAttr K A.Piece "counter"
  n_Piece_entries : NoAttr K A.Piece "entries"
  n_Piece_prices : NoAttr K A.Piece "prices"
  n_Piece_subject : NoAttr K A.Piece "subject"
  n_Piece_tonic : NoAttr K A.Piece "tonic"
/-- a def that may be called by its name -/
structure Fn (P : Program) (w : World) (K : PySem.W.Frag) (mg : Str → Option Value) (base : Heap) (x : Str) (k : Nat) (ps : List Str) (sp : Sp) : Prop where
  ex : ∃ (f : Addr) (fd : FuncData), mg x = some (.ref f) ∧ PySem.W.keepIn K (.ref f) = true ∧ Binds K fd ps [] ∧ FnOk P w K mg base CX0 k f fd ps sp
/-- a method of the class at C -/
structure Mt (P : Program) (w : World) (K : PySem.W.Frag) (mg : Str → Option Value) (base : Heap) (C : Addr) (m : Str) (k : Nat) (ps : List Str) (sp : Sp) : Prop where
  ex : ∃ (f : Addr) (fd : FuncData), Meth K C m f ∧ Binds K fd ps [] ∧ FnOk P w K mg base CX0 k f fd ps sp
/-- the class at C, made by its name -/
structure Nw (P : Program) (w : World) (K : PySem.W.Frag) (mg : Str → Option Value) (base : Heap) (x : Str) (C : Addr) (k : Nat) (ps : List Str) (sp : Sp) : Prop where
  ex : ∃ (f : Addr) (fd : FuncData), mg x = some (.ref C) ∧ Mk K C f ∧ Binds K fd ps [] ∧ FnOk P w K mg base CX0 k f fd ps sp
section
variable {X : Cx} {x m : Str} {k : Nat} {ps : List Str} {sp : Sp} {C : Addr} {e o : Expr} {es : List Expr} {t : TA} {to : TE} {p pos apos : Pos}
theorem pe_cst {n : Int} (hg : Gl X x) (h : Cst X.mg x n) (hd : (x == ("__debug__" : Str)) = false := by decide) : PE X (.Name x pos) (tC (.int n)) := by
  obtain ⟨t, h⟩ := h
  exact pe_glob hg h ⟨t, rfl⟩ hd
theorem pe_gref {a : Addr} (hg : Gl X x) (h : X.mg x = some (.ref a)) (hd : (x == ("__debug__" : Str)) = false := by decide) : PE X (.Name x pos) (tC (.ref a)) := pe_glob hg h rfl hd
theorem pe_fn (c : Fn X.prog X.w X.K X.mg X.base x k ps sp) (hr : Room k X.A) (hg : Gl X x) (ha : PA X (e :: es) t) (hdb : (x == ("__debug__" : Str)) = false := by decide)
    (he : starEach (e :: es) X.env = (false, eval e X.env) :: starEach es X.env := by rfl) (hpl : (backTo pos (starEach es X.env)).any (·.1) = false := by rfl) : PE X (.Call (.Name x p) (e :: es) [] pos) (tCall sp [] E0 t) := by
  obtain ⟨f, fd, hm, hk, hb, F⟩ := c.ex
  exact pe_call F hr hg hm hk hb .nil pass0 ha hdb he hpl
theorem pe_mt {pl : Sem Bool} (ho : PE X o to) (cl : Cls X.K C) (c : Mt X.prog X.w X.K X.mg X.base C m k ps sp) (hr : Room k X.A) (ha : PA X (e :: es) t)
    (hst : starEach (e :: es) X.env = (false, eval e X.env) :: starEach es X.env := by rfl) (hpl : (backTo pos (starEach es X.env)).any (·.1) = false := by rfl)
    (ht : eval (.Call (.Attribute o m apos) (e :: es) [] pos) X.env = (do
      let u ← eval o X.env
      standAt apos.atName
      let (g, h) ← holding [u] (getMethod u m pl)
      callWith pos g h (backTo pos (starEach (e :: es) X.env)) (backToKw pos (keywordEach [] X.env))) := by rfl) : PE X (.Call (.Attribute o m apos) (e :: es) [] pos) (tMeth C m sp [] E0 to t) := by
  obtain ⟨f, fd, hm, hb, F⟩ := c.ex
  exact pe_meth (pl := pl) ho cl hm F hr hb .nil pass0 ha hst hpl ht
theorem pe_mt0 {pl : Sem Bool} (ho : PE X o to) (cl : Cls X.K C) (c : Mt X.prog X.w X.K X.mg X.base C m k ps sp) (hr : Room k X.A)
    (ht : eval (.Call (.Attribute o m apos) [] [] pos) X.env = (do
      let u ← eval o X.env
      standAt apos.atName
      let (g, h) ← holding [u] (getMethod u m pl)
      callWith pos g h (backTo pos (starEach [] X.env)) (backToKw pos (keywordEach [] X.env))) := by rfl) : PE X (.Call (.Attribute o m apos) [] [] pos) (tMeth C m sp [] E0 to tNil) := by
  obtain ⟨f, fd, hm, hb, F⟩ := c.ex
  exact pe_meth0 (pl := pl) ho cl hm F hr hb .nil pass0 ht
theorem pe_new (c : Nw X.prog X.w X.K X.mg X.base x C k ps sp) (hr : Room (k + 1) X.A) (hg : Gl X x) (ha : PA X (e :: es) t) (hdb : (x == ("__debug__" : Str)) = false := by decide)
    (he : starEach (e :: es) X.env = (false, eval e X.env) :: starEach es X.env := by rfl) (hpl : (backTo pos (starEach es X.env)).any (·.1) = false := by rfl) : PE X (.Call (.Name x p) (e :: es) [] pos) (tMake C sp [] E0 t) := by
  obtain ⟨f, fd, hm, hk, hb, F⟩ := c.ex
  exact pe_make hk F hr hg hm hb .nil pass0 ha hdb he hpl
theorem pe_new0 (c : Nw X.prog X.w X.K X.mg X.base x C k ps sp) (hr : Room (k + 1) X.A) (hg : Gl X x) (hdb : (x == ("__debug__" : Str)) = false := by decide) : PE X (.Call (.Name x p) [] [] pos) (tMake C sp [] E0 tNil) := by
  obtain ⟨f, fd, hm, hk, hb, F⟩ := c.ex
  exact pe_make0 hk F hr hg hm hb .nil pass0 hdb
end
/-! ### Heaps -/
theorem same_new {H : Hp} {p : Addr} {o : HO} (h : H p = none) : Same H (upd H p o) := fun b x e => by
  rw [upd_ne (ne_of_none e h)]
  exact e
/-- what was not there may change -/
theorem same_mut {H H' : Hp} {p : Addr} {o : HO} (s : Same H H') (h : H p = none) : Same H (upd H' p o) := fun b x e => by
  rw [upd_ne (ne_of_none e h)]
  exact s b x e
/-- all that is no list stands -/
def Keeps (H H' : Hp) : Prop := ∀ b o, H b = some o → (∀ xs, o ≠ .lst xs) → H' b = some o
theorem Keeps.of {H H' : Hp} (s : Same H H') : Keeps H H' := fun b o e _ => s b o e
theorem Keeps.refl (H : Hp) : Keeps H H := fun _ _ e _ => e
theorem Keeps.trans {H H1 H2 : Hp} (a : Keeps H H1) (b : Keeps H1 H2) : Keeps H H2 := fun c o e h => b c o (a c o e h) h
theorem Keeps.lst {H : Hp} {p : Addr} {xs ys : List V} (h : H p = some (.lst xs)) : Keeps H (upd H p (.lst ys)) := fun b o e n => by
  by_cases q : b = p
  · subst q
    rw [h] at e
    exact absurd (Option.some.inj e).symm (n xs)
  · rw [upd_ne q]
    exact e
theorem Keeps.new {H : Hp} {p : Addr} {o : HO} (h : H p = none) : Keeps H (upd H p o) := .of (same_new h)
/-! ### Values row by row -/
def Rel {α : Type} (R : V → α → Prop) (vs : List V) (l : List α) : Prop := vs.length = l.length ∧ ∀ (i : Nat) (v : V), vs[i]? = some v → ∃ x : α, l[i]? = some x ∧ R v x
section
variable {α : Type} {R R' : V → α → Prop} {vs ws : List V} {l m : List α}
theorem Rel.nil : Rel R [] [] := ⟨rfl, fun i v h => by simp at h⟩
theorem Rel.imp (h : Rel R vs l) (f : ∀ v x, R v x → R' v x) : Rel R' vs l := ⟨h.1, fun i v e => by
  obtain ⟨x, h1, h2⟩ := h.2 i v e
  exact ⟨x, h1, f v x h2⟩⟩
theorem Rel.snoc {v : V} {x : α} (h : Rel R vs l) (hx : R v x) : Rel R (vs ++ [v]) (l ++ [x]) := by
  refine ⟨by rw [List.length_append, List.length_append, h.1]; rfl, fun i u e => ?_⟩
  by_cases hi : i < vs.length
  · rw [List.getElem?_append_left hi] at e
    obtain ⟨y, h1, h2⟩ := h.2 i u e
    exact ⟨y, by rw [List.getElem?_append_left (by rw [← h.1]; exact hi)]; exact h1, h2⟩
  · rw [List.getElem?_append_right (by omega)] at e
    have hi2 : i - vs.length = 0 := by
      have := (List.getElem?_eq_some_iff.mp e).1
      rw [List.length_singleton] at this
      omega
    rw [hi2] at e
    have e2 : v = u := Option.some.inj e
    subst e2
    exact ⟨x, by rw [List.getElem?_append_right (by rw [← h.1]; omega), ← h.1, hi2]; rfl, hx⟩
theorem Rel.append (h : Rel R vs l) (k : Rel R ws m) : Rel R (vs ++ ws) (l ++ m) := by
  refine ⟨by rw [List.length_append, List.length_append, h.1, k.1], fun i u e => ?_⟩
  by_cases hi : i < vs.length
  · rw [List.getElem?_append_left hi] at e
    obtain ⟨y, h1, h2⟩ := h.2 i u e
    exact ⟨y, by rw [List.getElem?_append_left (by rw [← h.1]; exact hi)]; exact h1, h2⟩
  · rw [List.getElem?_append_right (by omega)] at e
    obtain ⟨y, h1, h2⟩ := k.2 _ u e
    exact ⟨y, by rw [List.getElem?_append_right (by rw [← h.1]; omega), ← h.1]; exact h1, h2⟩
theorem Rel.take (h : Rel R vs l) (n : Nat) : Rel R (vs.take n) (l.take n) := by
  refine ⟨by rw [List.length_take, List.length_take, h.1], fun i u e => ?_⟩
  rw [List.getElem?_take] at e
  by_cases hi : i < n
  · rw [if_pos hi] at e
    obtain ⟨y, h1, h2⟩ := h.2 i u e
    exact ⟨y, by rw [List.getElem?_take, if_pos hi]; exact h1, h2⟩
  · rw [if_neg hi] at e
    cases e
theorem Rel.drop (h : Rel R vs l) (n : Nat) : Rel R (vs.drop n) (l.drop n) := by
  refine ⟨by rw [List.length_drop, List.length_drop, h.1], fun i u e => ?_⟩
  rw [List.getElem?_drop] at e
  obtain ⟨y, h1, h2⟩ := h.2 _ u e
  exact ⟨y, by rw [List.getElem?_drop]; exact h1, h2⟩
theorem Rel.get (h : Rel R vs l) {i : Nat} {x : α} (e : l[i]? = some x) : ∃ v, vs[i]? = some v ∧ R v x := by
  have hi : i < vs.length := by
    rw [h.1]
    exact (List.getElem?_eq_some_iff.mp e).1
  obtain ⟨y, h1, h2⟩ := h.2 i vs[i] (List.getElem?_eq_getElem hi)
  rw [e] at h1
  have e2 : x = y := Option.some.inj h1
  subst e2
  exact ⟨vs[i], List.getElem?_eq_getElem hi, h2⟩
end
/-- a list of ints -/
theorem Rel.ints (ns : List Int) : Rel (fun v (n : Int) => v = .int n) (ns.map V.int) ns := ⟨List.length_map _, fun i v e => by
  rw [List.getElem?_map] at e
  cases h : ns[i]? with
  | none =>
    rw [h] at e
    cases e
  | some n =>
    rw [h] at e
    exact ⟨n, rfl, (Option.some.inj e).symm⟩⟩
theorem ints_of {vs : List V} {ns : List Int} (h : Rel (fun v (n : Int) => v = .int n) vs ns) : vs = ns.map V.int := by
  apply List.ext_getElem?
  intro i
  cases e : vs[i]? with
  | none =>
    have : ns.length ≤ i := by
      rw [← h.1]
      exact List.getElem?_eq_none_iff.mp e
    rw [List.getElem?_map, List.getElem?_eq_none_iff.mpr this]
    rfl
  | some v =>
    obtain ⟨n, h1, h2⟩ := h.2 i v e
    rw [List.getElem?_map, h1, h2]
    rfl
/-- a list whose items are rows of data -/
def LstAt {α : Type} (R : Hp → V → α → Prop) (H : Hp) (a : Addr) (l : List α) : Prop := ∃ vs, H a = some (.lst vs) ∧ Rel (R H) vs l
/-! ### Readings that leave the heap as it is -/
section
variable {K : PySem.W.Frag} {σ : L2.St} {H : Hp} {ta tb tc te : TE} {t u : TT} {x y v : V} {i j : Int} {a b : Bool}
theorem eq_int : decide (V.int i = V.int j) = decide (i = j) := by
  by_cases h : i = j
  · subst h
    rw [decide_eq_true rfl, decide_eq_true rfl]
  · rw [decide_eq_false h, decide_eq_false]
    intro q
    exact h (V.int.inj q)
theorem v_int {g : Int → Int → V} (ha : Val ta σ H (.int i)) (hb : Val tb σ H (.int j)) : Val (tOp (rI0 g) ta tb) σ H (g i j) := fun _ q => ha _ (hb _ ⟨i, j, rfl, rfl, q⟩)
theorem v_add (ha : Val ta σ H (.int i)) (hb : Val tb σ H (.int j)) : Val (tOp (rI0 fun i j => V.int (i + j)) ta tb) σ H (.int (i + j)) := v_int ha hb
theorem v_sub (ha : Val ta σ H (.int i)) (hb : Val tb σ H (.int j)) : Val (tOp (rI0 fun i j => V.int (i - j)) ta tb) σ H (.int (i - j)) := v_int ha hb
theorem v_lt (ha : Val ta σ H (.int i)) (hb : Val tb σ H (.int j)) : Val (tOp (rI0 fun i j => V.bl (decide (i < j))) ta tb) σ H (.bl (decide (i < j))) := v_int ha hb
theorem v_le (ha : Val ta σ H (.int i)) (hb : Val tb σ H (.int j)) : Val (tOp (rI0 fun i j => V.bl (decide (i ≤ j))) ta tb) σ H (.bl (decide (i ≤ j))) := v_int ha hb
theorem v_gt (ha : Val ta σ H (.int i)) (hb : Val tb σ H (.int j)) : Val (tOp (rI0 fun i j => V.bl (decide (j < i))) ta tb) σ H (.bl (decide (j < i))) := v_int ha hb
theorem v_ge (ha : Val ta σ H (.int i)) (hb : Val tb σ H (.int j)) : Val (tOp (rI0 fun i j => V.bl (decide (j ≤ i))) ta tb) σ H (.bl (decide (j ≤ i))) := v_int ha hb
theorem v_mod (ha : Val ta σ H (.int i)) (hb : Val tb σ H (.int j)) (h : 0 < j) : Val (tOp (rI (fun _ j => 0 < j) fun i j => V.int (i % j)) ta tb) σ H (.int (i % j)) := fun _ q => ha _ (hb _ ⟨i, j, rfl, rfl, h, q⟩)
theorem v_intC {C : Int → Int → Prop} {g : Int → Int → V} (ha : Val ta σ H (.int i)) (hb : Val tb σ H (.int j)) (hc : C i j) : Val (tOp (rI C g) ta tb) σ H (g i j) := fun _ q => ha _ (hb _ ⟨i, j, rfl, rfl, hc, q⟩)
theorem v_neg {g : Int → V} (ha : Val ta σ H (.int i)) : Val (tUn (rU g) ta) σ H (g i) := fun _ q => ha _ ⟨i, rfl, q⟩
theorem v_ixL {p : Addr} {xs : List V} (ha : Val ta σ H (.ref p)) (hb : Val tb σ H (.int i)) (h : SqL K H p xs) (e : atI xs i = some v) : Val (tOp (rIxL K) ta tb) σ H v := fun _ q => ha _ (hb _ ⟨p, xs, i, v, rfl, rfl, h, e, q⟩)
theorem v_ixT {p : Addr} {xs : List V} (ha : Val ta σ H (.ref p)) (hb : Val tb σ H (.int i)) (h : SqT K H p xs) (e : atI xs i = some v) : Val (tOp (rIxT K) ta tb) σ H v := fun _ q => ha _ (hb _ ⟨p, xs, i, v, rfl, rfl, h, e, q⟩)
theorem v_eqI (ha : Val ta σ H (.int i)) (hb : Val tb σ H (.int j)) : Val (tOp rEq ta tb) σ H (.bl (decide (i = j))) := fun Q q => ha _ (hb _ ⟨rfl, by
  show Q (V.bl (decide (V.int i = V.int j))) H
  rw [eq_int]
  exact q⟩)
theorem v_neI (ha : Val ta σ H (.int i)) (hb : Val tb σ H (.int j)) : Val (tOp rNe ta tb) σ H (.bl (!decide (i = j))) := fun Q q => ha _ (hb _ ⟨rfl, by
  show Q (V.bl (!decide (V.int i = V.int j))) H
  rw [eq_int]
  exact q⟩)
theorem v_isN (ha : Val ta σ H x) : Val (tOp (fun x y H Q => y = .non ∧ Q (.bl (decide (x = .non))) H) ta (tC .non)) σ H (.bl (decide (x = .non))) := fun _ q => ha _ ⟨rfl, q⟩
theorem v_notN (ha : Val ta σ H x) : Val (tOp (fun x y H Q => y = .non ∧ Q (.bl (!decide (x = .non))) H) ta (tC .non)) σ H (.bl (!decide (x = .non))) := fun _ q => ha _ ⟨rfl, q⟩
theorem v_chain {lo hi n : Int} (ha : Val ta σ H (.int lo)) (hb : Val tb σ H (.int n)) (hc : Val tc σ H (.int hi)) :
    Val (tChain (rI0 fun i j => V.bl (decide (i ≤ j))) (rI0 fun i j => V.bl (decide (i ≤ j))) ta tb tc) σ H (.bl (Cp07.isIn lo hi n)) := by
  intro Q q
  refine ha _ (hb _ ⟨lo, n, rfl, rfl, _, rfl, ?_⟩)
  unfold Cp07.isIn at q
  cases h : decide (lo ≤ n) with
  | true =>
    rw [h] at q
    rw [if_pos rfl]
    exact hc _ ⟨n, hi, rfl, rfl, q⟩
  | false =>
    rw [h] at q
    rw [if_neg Bool.false_ne_true]
    exact q
theorem v_chainG {p p' : Int → Int → Bool} {lo hi n : Int} (ha : Val ta σ H (.int lo)) (hb : Val tb σ H (.int n)) (hc : Val tc σ H (.int hi)) :
    Val (tChain (rI0 fun i j => V.bl (p i j)) (rI0 fun i j => V.bl (p' i j)) ta tb tc) σ H (.bl (p lo n && p' n hi)) := by
  intro Q q
  refine ha _ (hb _ ⟨lo, n, rfl, rfl, _, rfl, ?_⟩)
  cases h : p lo n with
  | true =>
    rw [h] at q
    rw [if_pos rfl]
    exact hc _ ⟨n, hi, rfl, rfl, q⟩
  | false =>
    rw [h] at q
    rw [if_neg Bool.false_ne_true]
    exact q
theorem v_len {p : Addr} {ys : List V} (ha : Val ta σ H (.ref p)) (h : SqL K H p ys) : Val (tCB (fun xs H Q => ∃ p ys, xs = [.ref p] ∧ (SqL K H p ys ∨ SqT K H p ys) ∧ Q (.int ys.length) H) (tCons ta tNil)) σ H (.int ys.length) := fun _ q => ha _ ⟨p, ys, rfl, .inl h, q⟩
theorem v_andV (ha : Val ta σ H (.bl a)) (hb : a = true → Val tb σ H (.bl b)) : Val (tAndV ta tb) σ H (.bl (a && b)) := fun Q q => ha _ ⟨a, rfl, by
  cases a with
  | true => exact hb rfl Q q
  | false => exact q⟩
theorem v_orV (ha : Val ta σ H (.bl a)) (hb : a = false → Val tb σ H (.bl b)) : Val (tOrV ta tb) σ H (.bl (a || b)) := fun Q q => ha _ ⟨a, rfl, by
  cases a with
  | true => exact q
  | false => exact hb rfl Q q⟩
theorem v_is {w : V} (h : Val te σ H v) (e : v = w) : Val te σ H w := by
  rw [← e]
  exact h
theorem v_if (ha : Ans t σ H a) (h1 : a = true → Val ta σ H v) (h2 : a = false → Val tb σ H v) : Val (tIf t ta tb) σ H v := fun Q q => ha _ (by
  cases a with
  | true => exact h1 rfl Q q
  | false => exact h2 rfl Q q)
theorem v_call1 {sp : Sp} (ha : Val ta σ H x) (h : ∀ Q : VK, Q v H → sp [x] H Q E0) : Val (tCall sp [] E0 (tCons ta tNil)) σ H v := fun Q q => ha _ (h Q q)
theorem v_call2 {sp : Sp} (ha : Val ta σ H x) (hb : Val tb σ H y) (h : ∀ Q : VK, Q v H → sp [x, y] H Q E0) : Val (tCall sp [] E0 (tCons ta (tCons tb tNil))) σ H v := fun Q q => ha _ (hb _ (h Q q))
theorem a_test (h : Val te σ H (.bl b)) : Ans (tTest te) σ H b := fun _ q => h _ ⟨b, rfl, q⟩
theorem a_val (h : Val te σ H (.bl b)) : Ans (tB te) σ H b := fun _ q => h _ ⟨b, rfl, q⟩
theorem a_and (h1 : Ans t σ H a) (h2 : a = true → Ans u σ H b) : Ans (tAnd t u) σ H (a && b) := fun Q q => h1 _ (by
  cases a with
  | true => exact h2 rfl Q q
  | false => exact q)
theorem a_or (h1 : Ans t σ H a) (h2 : a = false → Ans u σ H b) : Ans (tOr t u) σ H (a || b) := fun Q q => h1 _ (by
  cases a with
  | true => exact q
  | false => exact h2 rfl Q q)
theorem a_not (h : Ans t σ H a) : Ans (tNot t) σ H (!a) := fun _ q => h _ q
theorem a_is (h : Ans t σ H a) (e : a = b) : Ans t σ H b := by
  rw [← e]
  exact h
/-! readings that may make new things -/
def AnsS (t : TT) (σ : L2.St) (H : Hp) (b : Bool) : Prop := ∀ Q : Bool → Hp → Prop, (∀ H', Same H H' → Q b H') → t σ H Q
def ValS (te : TE) (σ : L2.St) (H : Hp) (v : V) : Prop := ∀ Q : VK, (∀ H', Same H H' → Q v H') → te σ H Q
theorem as_of (h : Ans t σ H b) : AnsS t σ H b := fun _ q => h _ (q H (.refl H))
theorem vs_of (h : Val te σ H v) : ValS te σ H v := fun _ q => h _ (q H (.refl H))
theorem as_and (h1 : AnsS t σ H a) (h2 : a = true → ∀ H', Same H H' → AnsS u σ H' b) : AnsS (tAnd t u) σ H (a && b) := fun Q q => h1 _ fun H1 s1 => by
  cases a with
  | true => exact h2 rfl H1 s1 Q fun H2 s2 => q H2 (s1.trans s2)
  | false => exact q H1 s1
theorem as_or (h1 : AnsS t σ H a) (h2 : a = false → ∀ H', Same H H' → AnsS u σ H' b) : AnsS (tOr t u) σ H (a || b) := fun Q q => h1 _ fun H1 s1 => by
  cases a with
  | true => exact q H1 s1
  | false => exact h2 rfl H1 s1 Q fun H2 s2 => q H2 (s1.trans s2)
theorem as_not (h : AnsS t σ H a) : AnsS (tNot t) σ H (!a) := fun _ q => h _ q
theorem as_test (h : ValS te σ H (.bl b)) : AnsS (tTest te) σ H b := fun _ q => h _ fun H1 s1 => ⟨b, rfl, q H1 s1⟩
theorem as_val (h : ValS te σ H (.bl b)) : AnsS (tB te) σ H b := fun _ q => h _ fun H1 s1 => ⟨b, rfl, q H1 s1⟩
theorem as_is (h : AnsS t σ H a) (e : a = b) : AnsS t σ H b := by
  rw [← e]
  exact h
theorem vs_is {w : V} (h : ValS te σ H v) (e : v = w) : ValS te σ H w := by
  rw [← e]
  exact h
theorem in_two {z p q : Int} : inV (.int z) [.int p, .int q] = (z == p || z == q) := by
  show ((eqV (.int p) (.int z)) || ((eqV (.int q) (.int z)) || false)) = _
  rw [Bool.or_false]
  show ((p == z) || (q == z)) = _
  rw [Bool.beq_comm (a := p), Bool.beq_comm (a := q)]
theorem v_notInT {z p q : Int} {g : Addr} (ha : Val ta σ H (.int z)) (h : SqT K H g ([p, q].map V.int)) : Val (tOp (rIn K true) ta (tC (.ref g))) σ H (.bl (!(z == p || z == q))) := fun Q k => ha _ ⟨g, _, rfl, .inr h, rfl, rfl, by
  show Q (V.bl (!inV (.int z) [.int p, .int q])) H
  rw [in_two]
  exact k⟩
theorem vs_notIn {z p q : Int} (ha : Val ta σ H (.int z)) : ValS (tOp (rIn K true) ta (tTup (tCons (tC (.int p)) (tCons (tC (.int q)) tNil)))) σ H (.bl (!(z == p || z == q))) := fun Q k => ha _ ⟨(by show 2 ≤ sizeLine; decide), fun r hr =>
  ⟨r, [.int p, .int q], rfl, .inr (SqT.of upd_same), rfl, rfl, by
    show Q (.bl (!inV (.int z) [.int p, .int q])) _
    rw [in_two]
    exact k _ (same_new hr)⟩⟩
/-- an if by a Bool -/
theorem if_b {b : Bool} {A B : Prop} (h1 : b = true → A) (h2 : b = false → B) : if b = true then A else B := by
  cases b with
  | true => exact h1 rfl
  | false => exact h2 rfl
end
/-! ### Slices -/
theorem cut_hi (xs : List V) (n : Nat) : cutV xs none (some (n : Int)) = xs.take n := by
  unfold cutV
  rw [HT.sIx_none, show HT.sIx xs.length xs.length (some (n : Int)) = min n xs.length from HT.sIx_nat xs.length xs.length n]
  rw [List.drop_zero, Nat.sub_zero]
  by_cases h : n ≤ xs.length
  · rw [Nat.min_eq_left h]
  · rw [Nat.min_eq_right (by omega), List.take_length, List.take_of_length_le (by omega)]
theorem cut_lo (xs : List V) (n : Nat) : cutV xs (some (n : Int)) none = xs.drop n := by
  unfold cutV
  rw [HT.sIx_none, show HT.sIx xs.length 0 (some (n : Int)) = min n xs.length from HT.sIx_nat xs.length 0 n]
  by_cases h : n ≤ xs.length
  · rw [Nat.min_eq_left h, List.take_of_length_le]
    rw [List.length_drop]
    exact Nat.le_refl _
  · rw [Nat.min_eq_right (by omega), List.drop_eq_nil_of_le (Nat.le_refl _), List.drop_eq_nil_of_le (by omega), List.take_nil]
theorem cut_mid (xs : List V) (a b : Nat) : cutV xs (some (a : Int)) (some (b : Int)) = (xs.drop a).take (b - a) := by
  unfold cutV
  rw [show HT.sIx xs.length 0 (some (a : Int)) = min a xs.length from HT.sIx_nat xs.length 0 a, show HT.sIx xs.length xs.length (some (b : Int)) = min b xs.length from HT.sIx_nat xs.length xs.length b]
  by_cases h : a ≤ xs.length
  · rw [Nat.min_eq_left h]
    by_cases hb : b ≤ xs.length
    · rw [Nat.min_eq_left hb]
    · rw [Nat.min_eq_right (by omega), List.take_of_length_le (by rw [List.length_drop]; exact Nat.le_refl _), List.take_of_length_le (by rw [List.length_drop]; omega)]
  · rw [Nat.min_eq_right (show xs.length ≤ a by omega), List.drop_eq_nil_of_le (Nat.le_refl xs.length), List.drop_eq_nil_of_le (show xs.length ≤ a by omega), List.take_nil, List.take_nil]
end Fa

set_option Elab.async false
set_option linter.all false
set_option maxRecDepth 100000
set_option maxHeartbeats 4000000
namespace Fa
open PySem PySem.Spec PyProof.Rows L2
/-! ### set(xs) of a list of ints: the set as sorted wants it -/
/-- an empty set, as it is laid -/
abbrev noneIn (w : World) : Obj := { cls := .type "set", dict := none, data := .set #[] 0 (.fresh 0 0 (!w.params.followText "set-order")) }
section
variable {P : Program} {w : World} {A : Around} {E : Value → Shared → Prop} {s : Shared}
theorem set_of_ints {l : Addr} {its : Array Value} (ns : List Int) {Q : Value → Shared → Prop} (hh : A.handled = none) (hl : s.heap.IsList l its) (hit : IntsAre its.toList ns) (few : ns.length + 1 < scanBound)
    (h : ∀ (h' : Heap) (tk c : Nat), SetR w h' s.heap.objs.size (fun j => decide (j ∈ ns)) c → c ≤ ns.length → (∀ b o, s.heap.get? b = some o → h'.get? b = some o) → Q (.ref s.heap.objs.size) { s with heap := h', toks := tk }) :
    wpAny (model P w) A (call (.type "set") [.ref l]) Q E s := by
  have size : its.size = ns.length := by
    rw [← Array.length_toList]
    exact IntsAre.length hit
  have ⟨_, _, m0⟩ := F.called_set.mro
  have m1 := F.called_set.made
  have m2 := F.called_set.sub
  refine wpAny_call (codeAny_of_tree (?_ : wpAny _ _ (callAny (.type "set") _) _ _ _))
  refine wpAny_pure ⟨Code.quiet_builtin _ (by decide +kernel), codeAny_builtin F.entry_type_call (by
    rw [Around.under_plain (weight_type_call_type "set" [.ref l] []) rfl]
    have m3 := F.called_set.notType
    have m4 := F.called_set.canCreate
    have m5 := F.typeCall_set_1 (.ref l)
    repeat (any_goals (first | assumption | wp_step))
    refine codeAny_mono (code_set_led1 (.ref l) (E := E) (Q₁ := fun v s1 => v = .ref s.heap.objs.size ∧ s1 = { s with heap := s.heap.push (noneIn w) }) ⟨rfl, rfl⟩) fun r s1 hr => ?_
    cases r with
    | error e => exact hr
    | ok fl =>
      cases fl with
      | ret v =>
        obtain ⟨rfl, rfl⟩ := hr
        have g0 : (s.heap.push (noneIn w)).get? s.heap.objs.size = some (noneIn w) := Heap.get?_push_size _ rfl
        have ty : Shared.TypeIs { s with heap := s.heap.push (noneIn w) } (.ref s.heap.objs.size) "set" := ⟨_, g0, rfl⟩
        have m6 := F.called_set.init.lookup
        have m7 := F.called_set.init.bind (.ref s.heap.objs.size)
        repeat (any_goals (first | assumption | wp_step))
        refine codeAny_mono (codeAny_call_builtin (R := wants (fun r s2 => r = .none ∧ ∃ h' tk c, s2 = { s with heap := h', toks := tk } ∧ SetR w h' s.heap.objs.size (fun j => decide (j ∈ ns)) c ∧ c ≤ ns.length ∧ ∀ b o, s.heap.get? b = some o → h'.get? b = some o) E)
          F.called_set.init.plain F.entry_set_init (check_set_init_1 ty ?_)) fun r2 s2 hr2 => ?_
        · obtain ⟨⟨oc, od, odt, osl⟩, ho, hc, nl, hd⟩ := hl
          simp only at hc hd; subst hc; subst hd
          have ho' : (s.heap.push (noneIn w)).get? l = some { cls := .type "list", dict := od, data := .seq its nl, slots := osl } := Heap.get?_push_of_some _ ho
          have m8 := F.sub_list_set; have m9 := F.sub_list_frozenset
          have m10 : (Value.type "list" == Value.type "dict") = false := by decide
          have isl : (s.heap.push (noneIn w)).IsList l its := ⟨_, ho', rfl, nl, rfl⟩
          unfold Builtin.«set.__init__» noKeywords Builtin.Frozenset.updateFrom
          generalize eI : pyIter = it0
          wp_walk
          subst eI
          refine wpAny_pyIter_list isl (wpAny_bind (wpAny_runValue ?_))
          have lt : l < s.heap.objs.size := Heap.lt_size ho
          have hh' : A.in1.in1.in1.handled = none := by simp [hh]
          have n1 : l ≠ (s.heap.push (noneIn w)).objs.size := by
            rw [Heap.size_push]
            exact Nat.ne_of_lt (Nat.lt_succ_of_lt lt)
          have n2 : s.heap.objs.size ∉ [(s.heap.push (noneIn w)).objs.size, l] := by
            rw [Heap.size_push]
            simp only [List.mem_cons, List.not_mem_nil, or_false, not_or]
            exact ⟨Nat.ne_of_lt (Nat.lt_succ_self _), Nat.ne_of_gt lt⟩
          have vals : ∀ (i : Nat) (v : Value), its[i]? = some v → ∃ k t, ns[i]? = some k ∧ v = .int k t := fun i v hv => by
            have hi : i < ns.length := size ▸ (Array.getElem?_eq_some_iff.mp hv).1
            obtain ⟨t, e⟩ := IntsAre.int_at hit i v (by rw [Array.getElem?_toList]; exact hv)
            refine ⟨ns[i], t, List.getElem?_eq_getElem hi, ?_⟩
            rw [e, List.getD_eq_getElem?_getD, List.getElem?_eq_getElem hi] <;> rfl
          refine set_update_ints ((Walks.list hh' _ l n1 its).toS) s.heap.objs.size n2 ns size few vals (its.size - 0) 0 _ (by omega) (Nat.zero_le _) ⟨⟨_, Heap.get?_push_size _ rfl, rfl, rfl⟩, (isl.push _)⟩ ?start0 ?endAll
          case start0 => exact ⟨0, Nat.le_refl 0, setR_new_at (Heap.get?_push_of_some _ g0)⟩
          case endAll =>
            intro s3 c3 mv hc3 R3
            obtain ⟨h3, g3, d3, t3, o3⟩ := s3
            have q1 : g3 = s.gens := mv.gens
            have q2 : d3 = s.drawn := mv.drawn
            have q3 : o3 = s.os := mv.os
            subst q1; subst q2; subst q3
            show wpAny _ _ _ _ _ _
            refine wpAny_pure (?_ : wpAny _ _ (ret Value.none) _ _ _)
            rw [size] at hc3
            refine wpAny_pure ⟨rfl, h3, t3, c3, rfl, R3, hc3, fun b o e => ?_⟩
            have lb : b < s.heap.objs.size := Heap.lt_size e
            refine mv.heap b o ?_ (Heap.get?_push_of_some _ (Heap.get?_push_of_some _ e))
            simp only [List.mem_cons, List.not_mem_nil, or_false, not_or]
            refine ⟨Nat.ne_of_lt lb, ?_⟩
            rw [Heap.size_push]
            exact Nat.ne_of_lt (Nat.lt_succ_of_lt lb)
        · cases r2 with
          | error e => exact hr2
          | ok fl2 =>
            cases fl2 with
            | ret r =>
              obtain ⟨rfl, h', tk, c', rfl, R', hc', k'⟩ := hr2
              repeat (any_goals (first | assumption | wp_step))
              exact h _ _ _ R' hc' k'
            | _ => exact hr2.elim
      | _ => exact hr.elim)⟩
end
/-- set(xs) -/
def rSetI (w : World) (K : PySem.W.Frag) : List V → Hp → VK → Prop := fun vs H Q => ∃ (a : Addr) (ns : List Int), vs = [.ref a] ∧ SqL K H a (ns.map V.int) ∧ ns.length ≤ 1000 ∧
  ∀ (p : Addr) (n : Nat), n ≤ ns.length → H p = none → Q (.ref p) (upd H p (SetO w p (fun j => decide (j ∈ ns)) n))
theorem cr_setI {X : Cx} (hc : X.calm = true) : CallR X (.type "set") (rSetI X.w X.K) := by
  intro pins s σ H xs us Q I r h
  obtain ⟨a, ns, rfl, hS, few, q⟩ := h
  rw [Vals.ref1 r]
  obtain ⟨its, rv, pl, _⟩ := I.list hS
  refine set_of_ints (P := X.prog) ns (I.ok.hd hc) pl.isList (by simpa using ints_of_vals rv) (by unfold scanBound; omega) fun h' tk c R hcn k => ?_
  refine ⟨.ref _, upd H s.heap.objs.size (SetO X.w s.heap.objs.size (fun j => decide (j ∈ ns)) c), I.laid (t' := tk) k (Nat.le_refl _) (setO_new R), rfl, q _ c hcn (I.hok.fresh (Nat.le_refl _))⟩
end Fa

set_option Elab.async false
set_option linter.all false
set_option maxRecDepth 100000
set_option maxHeartbeats 4000000
namespace Fa
open PySem PySem.Spec PyProof.Rows L2
open Cp07 (Line Voice Table)
def spIn (lo hi : Int) : Sp := fun vs H Q _ => ∃ n : Int, vs = [.int n] ∧ Q (.bl (Cp07.isIn lo hi n)) H
def stepV : Option Int → V
  | none => .non
  | some z => .int z
/-- an event: a tuple of its step and its length -/
def EvAt (H : Hp) (v : V) (e : Cp07.Event) : Prop := ∃ p, v = .ref p ∧ H p = some (.tup [stepV e.n, .int (e.len : Int)])
theorem EvAt.keep {H H' : Hp} {v : V} {e : Cp07.Event} (k : Keeps H H') (h : EvAt H v e) : EvAt H' v e := by
  obtain ⟨p, h1, h2⟩ := h
  exact ⟨p, h1, k p _ h2 (fun xs z => by cases z)⟩
abbrev LineAt : Hp → Addr → Line → Prop := LstAt EvAt
theorem LineAt.same {H H' : Hp} {a : Addr} {l : Line} (s : Same H H') (h : LineAt H a l) : LineAt H' a l := by
  obtain ⟨vs, h1, h2⟩ := h
  exact ⟨vs, s a _ h1, h2.imp fun v x q => q.keep (.of s)⟩
theorem stepV_non {o : Option Int} : decide (stepV o = V.non) = o.isNone := by
  cases o with
  | none => rfl
  | some z => rfl
section
variable {P : Program} {w : World} {K : PySem.W.Frag} {mg : Str → Option Value} {base : Heap} {A : At} {f : Addr} {fd : FuncData}
theorem ok_is_step (F : Fun K "is_step" "is_step" s_is_step f fd) (T : Txt K mg A) : FnOk P w K mg base CX0 1 f fd ["number"] (spIn 0 69) := by
  refine F.ok sc_is_step (fun vs H Q E h => ?_) (fun cdv A' outer s H vs Q E hr h => ?_)
  · obtain ⟨n, rfl, _⟩ := h
    rfl
  · obtain ⟨n, rfl, q⟩ := h
    refine ⟨_, (pss_one (ps_ret (pe_chain op_le op_le pe_int (pv 0) (pe_cst (by rfl) T.c_HIGHEST_STEP)))), ?_⟩
    exact v_chain val_c (val_var rfl) val_c _ q
theorem ok_is_length (F : Fun K "is_length" "is_length" s_is_length f fd) (T : Txt K mg A) : FnOk P w K mg base CX0 1 f fd ["number"] (spIn 1 512) := by
  refine F.ok sc_is_length (fun vs H Q E h => ?_) (fun cdv A' outer s H vs Q E hr h => ?_)
  · obtain ⟨n, rfl, _⟩ := h
    rfl
  · obtain ⟨n, rfl, q⟩ := h
    refine ⟨_, (pss_one (ps_ret (pe_chain op_le op_le pe_int (pv 0) (pe_cst (by rfl) T.c_LONGEST_LENGTH)))), ?_⟩
    exact v_chain val_c (val_var rfl) val_c _ q
/-- read_event: the event that the numbers have from a place on -/
def spReadEvent : Sp := fun vs H Q _ => ∃ (a : Addr) (ns : List Int) (i : Nat), vs = [.ref a, .int (i : Int)] ∧ H a = some (.lst (ns.map V.int)) ∧ i < ns.length ∧
  (firstEvent (ns.drop i) = none → Q .non H) ∧ ∀ e, firstEvent (ns.drop i) = some e → ∀ p, H p = none → Q (.ref p) (upd H p (.tup [stepV e.n, .int (e.len : Int)]))
theorem ix_int {ns : List Int} {i : Nat} {z : Int} (h : ns[i]? = some z) : atI (ns.map V.int) (i : Int) = some (.int z) := atI_nat (by
  rw [List.getElem?_map, h]
  rfl)
theorem drop_cons {ns : List Int} {i : Nat} {z : Int} {r : List Int} (h : ns.drop i = z :: r) : ns[i]? = some z ∧ ns.drop (i + 1) = r := by
  have h1 : (ns.drop i)[0]? = some z := by rw [h]; rfl
  rw [List.getElem?_drop] at h1
  refine ⟨h1, ?_⟩
  rw [← List.drop_drop, h]
  rfl
theorem ok_read_event (F : Fun K "read_event" "read_event" s_read_event f fd) (T : Txt K mg A) (C_is_step : Fn P w K mg base "is_step" 1 ["number"] (spIn 0 69)) (C_is_length : Fn P w K mg base "is_length" 1 ["number"] (spIn 1 512)) :
    FnOk P w K mg base CX0 2 f fd ["numbers", "at"] spReadEvent := by
  refine F.ok sc_read_event (fun vs H Q E h => ?_) (fun cdv A' outer s H vs Q E hr h => ?_)
  · obtain ⟨a, ns, i, rfl, _⟩ := h
    rfl
  · obtain ⟨a, ns, i, rfl, hA, hi, qN, qS⟩ := h
    refine ⟨_, (pss_cons (ps_set (i := 2) sc_read_event.nd rfl (Or.inl rfl) (pe_op op_sub (pe_callB call_len_seq (by rfl) T.b_len (by decide +kernel) (pa_cons (pv 0) pa_nil)) (pv 1)))
      (pss_cons (ps_if (PW.pt (pw_and (pt_cmpR op_eq (pe_ix ix_list (pv 0) (pv 1) (fun _ _ => rfl)) (pe_cst (by rfl) T.c_REST) (nomark _)) (pw_and (pt_cmpR op_ge (pv 2) (pe_cst (by rfl) T.c_NUMBERS_OF_A_REST) (nomark _)) (pw_and1 (pt_val (pe_fn C_is_length (hr.mono (by decide)) (by rfl) (pa_cons (pe_ix ix_list (pv 0) (pe_op op_add (pv 1) pe_int) (fun _ _ => rfl)) pa_nil))))))) (pss_one (ps_ret (pe_tup (pa_cons pe_non (pa_cons (pe_ix ix_list (pv 0) (pe_op op_add (pv 1) pe_int) (fun _ _ => rfl)) pa_nil))))) pss_nil)
      (pss_cons (ps_if (PW.pt (pw_and (pt_cmpR op_eq (pe_ix ix_list (pv 0) (pv 1) (fun _ _ => rfl)) (pe_cst (by rfl) T.c_NOTE) (nomark _)) (pw_and1 (pt_cmpR op_ge (pv 2) (pe_cst (by rfl) T.c_NUMBERS_OF_A_NOTE) (nomark _))))) (pss_one (ps_if (PW.pt (pw_and (pt_val (pe_fn C_is_step (hr.mono (by decide)) (by rfl) (pa_cons (pe_ix ix_list (pv 0) (pe_op op_add (pv 1) pe_int) (fun _ _ => rfl)) pa_nil))) (pw_and1 (pt_val (pe_fn C_is_length (hr.mono (by decide)) (by rfl) (pa_cons (pe_ix ix_list (pv 0) (pe_op op_add (pv 1) pe_int) (fun _ _ => rfl)) pa_nil)))))) (pss_one (ps_ret (pe_tup (pa_cons (pe_ix ix_list (pv 0) (pe_op op_add (pv 1) pe_int) (fun _ _ => rfl)) (pa_cons (pe_ix ix_list (pv 0) (pe_op op_add (pv 1) pe_int) (fun _ _ => rfl)) pa_nil))))) pss_nil)) pss_nil)
      (pss_one (ps_ret pe_non))))), ?_⟩
    have hA' : SqL K H a (ns.map V.int) := SqL.of hA
    have hlen : (ns.map V.int).length = ns.length := List.length_map _
    have n3 : ns.length ≤ i + 2 ∨ ∃ z x y r, ns.drop i = z :: x :: y :: r := by
      by_cases h3 : ns.length ≤ i + 2
      · exact .inl h3
      · refine .inr ⟨ns[i], ns[i + 1], ns[i + 2], ns.drop (i + 3), ?_⟩
        rw [List.drop_eq_getElem_cons hi, List.drop_eq_getElem_cons (show i + 1 < ns.length by omega), List.drop_eq_getElem_cons (show i + 2 < ns.length by omega)]
    have hz : ns[i]? = some ns[i] := List.getElem?_eq_getElem hi
    have ez : ns.drop i = ns[i] :: ns.drop (i + 1) := List.drop_eq_getElem_cons hi
    have g1 : ∀ k : Nat, i + k < ns.length → atI (ns.map V.int) ((i : Int) + (k : Int)) = some (.int (ns.getD (i + k) 0)) := fun k hk => by
      rw [show ((i : Int) + (k : Int)) = ((i + k : Nat) : Int) by omega, List.getD_eq_getElem?_getD, List.getElem?_eq_getElem hk]
      exact ix_int (List.getElem?_eq_getElem hk)
    -- left = len(numbers) - at
    refine v_sub (v_len (val_var rfl) hA') (val_var rfl) _ ?_
    -- a rest
    refine a_and (a_test (v_eqI (v_ixL (val_var rfl) (val_var rfl) hA' (ix_int hz)) val_c)) (fun _ =>
        a_and (a_test (v_ge (val_var rfl) val_c)) fun h2 => a_val (v_call1 (v_ixL (val_var rfl) (v_add (val_var rfl) val_c) hA' (g1 1 (by
          have h2' := of_decide_eq_true h2
          omega))) fun Q q => ⟨_, rfl, q⟩)) _ (if_b (fun c => ?_) fun c => ?_)
    · simp only [Bool.and_eq_true, decide_eq_true_eq] at c
      obtain ⟨c1, c2, c3⟩ := c
      have hi1 : i + 1 < ns.length := by omega
      refine v_ixL (val_var rfl) (v_add (val_var rfl) val_c) hA' (g1 1 hi1) _ ⟨(by show 2 ≤ sizeLine; decide), fun p hp => ?_⟩
      have e : firstEvent (ns.drop i) = some ⟨none, (ns.getD (i + 1) 0).toNat⟩ := by
        rw [ez, List.drop_eq_getElem_cons hi1, show ns[i + 1] = ns.getD (i + 1) 0 by rw [List.getD_eq_getElem?_getD, List.getElem?_eq_getElem hi1]; rfl]
        unfold firstEvent
        dsimp only
        rw [if_pos c1]
        rw [if_pos c3]
      have := qS _ e p hp
      have h5 := of_decide_eq_true (Bool.and_eq_true_iff.mp c3).1
      dsimp only at this
      rw [Int.toNat_of_nonneg (by omega)] at this
      exact this
    · -- a note
      refine a_and (a_test (v_eqI (v_ixL (val_var rfl) (val_var rfl) hA' (ix_int hz)) val_c)) (fun _ => a_test (v_ge (val_var rfl) val_c)) _ (if_b (fun d => ?_) fun d => ?_)
      · simp only [Bool.and_eq_true, decide_eq_true_eq] at d
        obtain ⟨d1, d2⟩ := d
        have hi1 : i + 1 < ns.length := by omega
        have hi2 : i + 2 < ns.length := by omega
        have e3 : ns.drop i = 1 :: ns.getD (i + 1) 0 :: ns.getD (i + 2) 0 :: ns.drop (i + 3) := by
          rw [ez, d1, List.drop_eq_getElem_cons hi1, List.drop_eq_getElem_cons hi2, List.getD_eq_getElem?_getD, List.getElem?_eq_getElem hi1, List.getD_eq_getElem?_getD, List.getElem?_eq_getElem hi2]
          rfl
        refine a_and (a_val (v_call1 (v_ixL (val_var rfl) (v_add (val_var rfl) val_c) hA' (g1 1 hi1)) fun Q q => ⟨_, rfl, q⟩)) (fun _ => a_val (v_call1 (v_ixL (val_var rfl) (v_add (val_var rfl) val_c) hA' (g1 2 hi2)) fun Q q => ⟨_, rfl, q⟩)) _ (if_b (fun g => ?_) fun g => ?_)
        · refine v_ixL (val_var rfl) (v_add (val_var rfl) val_c) hA' (g1 1 hi1) _ ?_
          refine v_ixL (val_var rfl) (v_add (val_var rfl) val_c) hA' (g1 2 hi2) _ ⟨(by show 2 ≤ sizeLine; decide), fun p hp => ?_⟩
          have e : firstEvent (ns.drop i) = some ⟨some (ns.getD (i + 1) 0), (ns.getD (i + 2) 0).toNat⟩ := by
            rw [e3]
            unfold firstEvent
            dsimp only
            rw [if_neg (by decide), if_pos rfl]
            rw [if_pos g]
          have := qS _ e p hp
          have h5 := of_decide_eq_true (Bool.and_eq_true_iff.mp (Bool.and_eq_true_iff.mp g).2).1
          dsimp only at this
          rw [Int.toNat_of_nonneg (by omega)] at this
          exact this
        · refine qN ?_
          rw [e3]
          unfold firstEvent
          dsimp only
          rw [if_neg (by decide), if_pos rfl]
          rw [if_neg]
          rw [Bool.not_eq_true]
          exact g
      · refine qN ?_
        rw [ez]
        unfold firstEvent
        dsimp only
        by_cases c1 : ns[i] = 0
        · rw [if_pos c1]
          by_cases hi1 : i + 1 < ns.length
          · rw [List.drop_eq_getElem_cons hi1]
            dsimp only
            rw [if_neg]
            intro c3
            have e1 : ns.getD (i + 1) 0 = ns[i + 1] := by rw [List.getD_eq_getElem?_getD, List.getElem?_eq_getElem hi1]; rfl
            rw [e1, c3, decide_eq_true c1, decide_eq_true (by omega)] at c
            cases c
          · rw [List.drop_eq_nil_of_le (by omega)]
        · rw [if_neg c1]
          by_cases c2 : ns[i] = 1
          · rw [if_pos c2]
            have hl : ¬ ((3 : Int) ≤ ((ns.map V.int).length : Int) - (i : Int)) := by
              intro q
              rw [decide_eq_true c2, decide_eq_true q] at d
              cases d
            rw [hlen] at hl
            by_cases hi1 : i + 1 < ns.length
            · rw [List.drop_eq_getElem_cons hi1, List.drop_eq_nil_of_le (by omega)]
            · rw [List.drop_eq_nil_of_le (by omega)]
          · rw [if_neg c2]
end
end Fa

set_option Elab.async false
set_option linter.all false
set_option maxRecDepth 100000
set_option maxHeartbeats 4000000
namespace Fa
open PySem PySem.Spec PyProof.Rows L2
open Cp07 (Line Voice Table)
section
variable {P : Program} {w : World} {K : PySem.W.Frag} {mg : Str → Option Value} {base : Heap} {A : At} {f : Addr} {fd : FuncData}
/-- read_events: the events, or None -/
def spReadEvents : Sp := fun vs H Q _ => ∃ (a : Addr) (ns : List Int), vs = [.ref a] ∧ H a = some (.lst (ns.map V.int)) ∧ ns.length ≤ 60 ∧
  (Cp07.events ns = none → ∀ H', Same H H' → Q .non H') ∧ ∀ l, Cp07.events ns = some l → Fit l → ∀ (H' : Hp) p, Same H H' → H p = none → LineAt H' p l → Q (.ref p) H'
def slotNat (σ : L2.St) (k : Nat) : Nat := match σ[k]? with
  | some (some (.int i)) => i.toNat
  | _ => 0
theorem LstAt.push {α : Type} {R : Hp → V → α → Prop} (mono : ∀ {H H' : Hp} {v : V} {x : α}, Keeps H H' → R H v x → R H' v x) {H : Hp} {o : Addr} {vs : List V} {l : List α} {v : V} {x : α} (h : H o = some (.lst vs)) (r : Rel (R H) vs l) (hv : R H v x) : LstAt R (upd H o (.lst (vs ++ [v]))) o (l ++ [x]) :=
  ⟨_, upd_same, (r.snoc hv).imp fun _ _ q => mono (.lst h) q⟩
theorem ok_read_events (F : Fun K "read_events" "read_events" s_read_events f fd) (T : Txt K mg A) (C_read_event : Fn P w K mg base "read_event" 2 ["numbers", "at"] spReadEvent) :
    FnOk P w K mg base CX0 3 f fd ["numbers"] spReadEvents := by
  refine F.ok sc_read_events (fun vs H Q E h => ?_) (fun cdv A' outer s H vs Q E hr h => ?_)
  · obtain ⟨a, ns, rfl, _⟩ := h
    rfl
  · obtain ⟨a, ns, rfl, hA, hn, qN, qS⟩ := h
    refine ⟨_, (pss_cons (ps_set (i := 1) sc_read_events.nd rfl (Or.inl rfl) (pe_lst pa_nil))
      (pss_cons (ps_set (i := 2) sc_read_events.nd rfl (Or.inl rfl) pe_int)
      (pss_cons (ps_while PassesOwn.never (pt_cmpR op_lt (pv 2) (pe_callB call_len_seq (by rfl) T.b_len (by decide +kernel) (pa_cons (pv 0) pa_nil)) (nomark _)) (pss_cons (ps_set (i := 3) sc_read_events.nd rfl (Or.inl rfl) (pe_fn C_read_event (hr.mono (by decide)) (by rfl) (pa_cons (pv 0) (pa_cons (pv 2) pa_nil))))
      (pss_cons (ps_if (pt_cmpR op_isN (pv 3) pe_non (nomark _)) (pss_one (ps_ret pe_non)) pss_nil)
      (pss_cons (ps_expr (pe_bm PySem.F.plainAttrs_list PySem.F.slot_list_append PySem.F.type_list_append mt_append (pv 1) (pa_cons (pv 3) pa_nil)))
      (pss_one (ps_aug (i := 2) sc_read_events.nd rfl (Or.inl rfl) (pe_ifExp (pt_cmpR op_isN (pe_ix ix_tup (pv 3) pe_int (fun _ _ => rfl)) pe_non (nomark _)) (pe_cst (by rfl) T.c_NUMBERS_OF_A_REST) (pe_cst (by rfl) T.c_NUMBERS_OF_A_NOTE)) ip_add))))))
      (pss_one (ps_ret (pv 1)))))), ?_⟩
    -- events = []
    refine ⟨Nat.zero_le _, fun o no => ?_⟩
    have hl : (ns.map V.int).length = ns.length := List.length_map _
    refine while_by (fun σ H' => ∃ (l : Line) (i : Nat) (v : Option V), σ = [some (.ref a), some (.ref o), some (.int (i : Int)), v] ∧ Read ns l i ∧ Same H H' ∧ LineAt H' o l) (fun σ _ => ns.length - slotNat σ 2)
      ⟨[], 0, none, rfl, read_zero ns, same_new no, [], upd_same, Rel.nil⟩ ?_ (fun σ H Q Q' k ⟨v, h1, u, h2, p, ys, h3, h4, i, j, h5, h6, b, h7, q⟩ => ⟨v, h1, u, h2, p, ys, h3, h4, i, j, h5, h6, b, h7, k _ _ q⟩)
    rintro σ H1 ⟨l, i, v, rfl, hR, s1, vs, hO, hV⟩
    have hA1 : H1 a = some (.lst (ns.map V.int)) := s1 _ _ hA
    refine a_test (v_lt (val_var rfl) (v_len (val_var rfl) (SqL.of hA1))) _ (if_b (fun c => ?_) fun c => ?_)
    · have hi : i < ns.length := by
        have c' := of_decide_eq_true c
        omega
      -- event = read_event(numbers, at)
      refine ⟨_, rfl, _, rfl, a, ns, i, rfl, hA1, hi, fun e => ?_, fun e he p hp => ?_⟩
      · refine a_test (v_isN (val_var rfl)) _ (if_b (fun _ => ?_) fun c => by cases c)
        exact qN (read_fail hR hi e) _ s1
      · refine a_test (v_isN (val_var rfl)) _ (if_b (fun c => by cases c) fun _ => ?_)
        have npo : o ≠ p := ne_of_none hO hp
        have hO2 : (upd H1 p (HO.tup [stepV e.n, .int (e.len : Int)])) o = some (.lst vs) := by
          rw [upd_ne npo]
          exact hO
        have hl2 : vs.length < sizeLine := by
          rw [hV.1]
          exact small1000 (by have := hR.2.2.1; omega)
        have hV2 : Rel (EvAt (upd H1 p (HO.tup [stepV e.n, .int (e.len : Int)]))) vs l := hV.imp fun _ _ q => q.keep (.new hp)
        have hE : EvAt (upd H1 p (HO.tup [stepV e.n, .int (e.len : Int)])) (.ref p) e := ⟨p, rfl, upd_same⟩
        -- events.append(event)
        refine ⟨_, rfl, .inl ⟨rfl, _, SqL.of hO2⟩, _, rfl, o, vs, _, rfl, rfl, hO2, hl2, ?_⟩
        have hL := LstAt.push (R := EvAt) (fun k q => q.keep k) hO2 hV2 hE
        have hP : (upd (upd H1 p (HO.tup [stepV e.n, .int (e.len : Int)])) o (.lst (vs ++ [.ref p]))) p = some (.tup [stepV e.n, .int (e.len : Int)]) := by
          rw [upd_ne npo.symm, upd_same]
        have sS : Same H (upd (upd H1 p (HO.tup [stepV e.n, .int (e.len : Int)])) o (.lst (vs ++ [.ref p]))) := same_mut (s1.trans (same_new hp)) no
        -- at += ..
        refine ⟨_, rfl, ?_⟩
        refine v_if (v := .int (evSize e : Int)) (a_test (v_isN (v_ixT (val_var rfl) val_c (SqT.of hP) (atI_nat (j := 0) rfl)))) (fun c => ?_) (fun c => ?_) _ ⟨_, _, rfl, rfl, ?_⟩
        · rw [stepV_non] at c
          refine v_is val_c ?_
          unfold evSize
          cases hn : e.n with
          | none => rfl
          | some z =>
            rw [hn] at c
            cases c
        · rw [stepV_non] at c
          refine v_is val_c ?_
          unfold evSize
          cases hn : e.n with
          | none =>
            rw [hn] at c
            cases c
          | some z => rfl
        · have hs : 1 ≤ evSize e := by
            unfold evSize
            cases e.n <;> simp
          refine ⟨⟨l ++ [e], i + evSize e, _, rfl, read_more hR he, sS, hL⟩, ?_⟩
          show ns.length - ((i : Int) + (evSize e : Int)).toNat < ns.length - ((i : Int)).toNat
          omega
    · have hi : ns.length ≤ i := by
        have c' := of_decide_eq_false c
        omega
      exact ⟨_, rfl, qS l (read_end hR hi) hR.2.2.2 _ o s1 no ⟨vs, hO, hV⟩⟩
end
end Fa

set_option Elab.async false
set_option linter.all false
set_option maxRecDepth 100000
set_option maxHeartbeats 4000000
namespace Fa
open PySem PySem.Spec PyProof.Rows L2
open Cp07 (Line Voice Table)
theorem take_more {α : Type} {l : List α} {i : Nat} {x : α} (h : l[i]? = some x) : l.take (i + 1) = l.take i ++ [x] := by
  rw [List.take_add_one, h]
  rfl
theorem shown_append (a b : Line) : Cp08.shown (a ++ b) = Cp08.shown a ++ Cp08.shown b := List.flatMap_append
theorem shown_len : ∀ l : Line, (Cp08.shown l).length ≤ 3 * l.length
  | [] => Nat.le_refl _
  | e :: l => by
    have ih := shown_len l
    have e1 : Cp08.shown (e :: l) = (match e.n with
      | none => [0, (e.len : Int)]
      | some z => [1, z, (e.len : Int)]) ++ Cp08.shown l := List.flatMap_cons
    rw [e1, List.length_append, List.length_cons]
    cases e.n with
    | none =>
      show 2 + _ ≤ _
      omega
    | some z =>
      show 3 + _ ≤ _
      omega
theorem length_sum (l : Line) : (Cp07.length l : Int) = (l.map fun e => (e.len : Int)).sum := by
  unfold Cp07.length
  rw [foldl_add, Nat.zero_add]
  induction l with
  | nil => rfl
  | cons e l ih =>
    rw [List.map_cons, List.sum_cons, List.map_cons, List.sum_cons, ← ih]
    omega
section
variable {P : Program} {w : World} {K : PySem.W.Frag} {mg : Str → Option Value} {base : Heap} {A : At} {f : Addr} {fd : FuncData}
/-- tell_events: the numbers that tell them -/
def spTell : Sp := fun vs H Q _ => ∃ (a : Addr) (l : Line), vs = [.ref a] ∧ LineAt H a l ∧ l.length ≤ 16 ∧
  ∀ (H' : Hp) p, Same H H' → H p = none → H' p = some (.lst ((Cp08.shown l).map V.int)) → Q (.ref p) H'
theorem ok_tell_events (F : Fun K "tell_events" "tell_events" s_tell_events f fd) (T : Txt K mg A) : FnOk P w K mg base CX0 1 f fd ["events"] spTell := by
  refine F.ok sc_tell_events (fun vs H Q E h => ?_) (fun cdv A' outer s H vs Q E hr h => ?_)
  · obtain ⟨a, l, rfl, _⟩ := h
    rfl
  · obtain ⟨a, l, rfl, hA, hn, q⟩ := h
    refine ⟨_, (pss_cons (ps_set (i := 1) sc_tell_events.nd rfl (Or.inl rfl) (pe_lst pa_nil))
      (pss_cons (ps_for PassesOwn.never rfl (pi_list (pv 0)) (pg_tup rfl (pgs_cons (pg_name (i := 2) sc_tell_events.nd rfl (Or.inl rfl)) (pgs_cons (pg_name (i := 3) sc_tell_events.nd rfl (Or.inl rfl)) pgs_nil))) (pss_one (ps_if (pt_cmpR op_isN (pv 2) pe_non (nomark _)) (pss_one (ps_expr (pe_bm PySem.F.plainAttrs_list PySem.F.slot_list_extend PySem.F.type_list_extend mt_extend (pv 1) (pa_cons (pe_lst (pa_cons (pe_cst (by rfl) T.c_REST) (pa_cons (pv 3) pa_nil))) pa_nil)))) (pss_one (ps_expr (pe_bm PySem.F.plainAttrs_list PySem.F.slot_list_extend PySem.F.type_list_extend mt_extend (pv 1) (pa_cons (pe_lst (pa_cons (pe_cst (by rfl) T.c_NOTE) (pa_cons (pv 2) (pa_cons (pv 3) pa_nil)))) pa_nil)))))))
      (pss_one (ps_ret (pv 1))))), ?_⟩
    refine ⟨Nat.zero_le _, fun o no => ?_⟩
    obtain ⟨vs, h1, hV⟩ := hA
    refine ⟨_, rfl, a, rfl, ⟨_, SqL.of ((same_new no) _ _ h1)⟩, for_list (K := K) (a := a) (xs := vs) (fun i σ H' => ∃ v2 v3 : Option V, σ = [some (.ref a), some (.ref o), v2, v3] ∧ Same H H' ∧ H' o = some (.lst ((Cp08.shown (l.take i)).map V.int)))
      ⟨none, none, rfl, same_new no, upd_same⟩ (fun i σ H' _ ⟨_, _, _, s5, _⟩ => SqL.of (s5 _ _ h1)) ?_ ?_⟩
    · rintro i x σ H1 hx ⟨v2, v3, rfl, s1, hO⟩
      obtain ⟨e, he, p, rfl, hp⟩ := hV.2 i x hx
      have hp1 := s1 _ _ hp
      have hil : i < l.length := (List.getElem?_eq_some_iff.mp he).1
      have hsl := shown_len (l.take i)
      have htl : (l.take i).length ≤ i := List.length_take_le ..
      refine ⟨p, _, rfl, SqT.of hp1, rfl, _, _, rfl, _, _, rfl, rfl, ?_⟩
      have step := take_more he
      refine a_test (v_isN (val_var rfl)) _ (if_b (fun c => ?_) fun c => ?_)
      · rw [stepV_non] at c
        refine ⟨_, rfl, .inl ⟨rfl, _, SqL.of hO⟩, _, rfl, (by show 2 ≤ sizeLine; decide), fun b nb => ?_⟩
        have nbo : o ≠ b := ne_of_none hO nb
        refine ⟨o, b, _, _, rfl, rfl, Eq.trans (upd_ne nbo) hO, upd_same, ?_, ?_⟩
        · rw [List.length_map]
          exact Nat.le_of_lt (small1000 (by show _ + 2 ≤ 1000; omega))
        · refine ⟨_, _, rfl, same_mut (s1.trans (same_new nb)) no, ?_⟩
          rw [upd_same, step, shown_append, List.map_append]
          unfold Cp08.shown
          rw [List.flatMap_cons]
          cases hn : e.n with
          | none => rfl
          | some z =>
            rw [hn] at c
            cases c
      · rw [stepV_non] at c
        refine ⟨_, rfl, .inl ⟨rfl, _, SqL.of hO⟩, _, rfl, _, rfl, (by show 3 ≤ sizeLine; decide), fun b nb => ?_⟩
        have nbo : o ≠ b := ne_of_none hO nb
        refine ⟨o, b, _, _, rfl, rfl, Eq.trans (upd_ne nbo) hO, upd_same, ?_, ?_⟩
        · rw [List.length_map]
          exact Nat.le_of_lt (small1000 (by show _ + 3 ≤ 1000; omega))
        · refine ⟨_, _, rfl, same_mut (s1.trans (same_new nb)) no, ?_⟩
          rw [upd_same, step, shown_append, List.map_append]
          unfold Cp08.shown
          rw [List.flatMap_cons]
          cases hn : e.n with
          | none =>
            rw [hn] at c
            cases c
          | some z => rfl
    · rintro σ H1 ⟨v2, v3, rfl, s1, hO⟩
      rw [hV.1, List.take_length] at hO
      exact ⟨_, rfl, q H1 o s1 no hO⟩
/-- line_length -/
def spLength : Sp := fun vs H Q _ => ∃ (a : Addr) (l : Line), vs = [.ref a] ∧ LineAt H a l ∧ l.length ≤ 16 ∧ ∀ H', Same H H' → Q (.int (Cp07.length l : Int)) H'
theorem ok_line_length (F : Fun K "line_length" "line_length" s_line_length f fd) (T : Txt K mg A) : FnOk P w K mg base CX0 1 f fd ["events"] spLength := by
  refine F.ok sc_line_length (fun vs H Q E h => ?_) (fun cdv A' outer s H vs Q E hr h => ?_)
  · obtain ⟨a, l, rfl, _⟩ := h
    rfl
  · obtain ⟨a, l, rfl, hA, hn, q⟩ := h
    refine ⟨_, (pss_one (ps_ret (pe_callB (cr_sum rfl) (by rfl) T.b_sum (by decide +kernel) (pa_cons (pe_lc (own := [("step", 1), ("length", 2)]) (g := gTup K 2 (gCons (gName 1) (gCons (gName 2) gNil))) rfl sc_line_length.nd (pi_list (pv 0)) (blkOk_by (own := [("step", 1), ("length", 2)]) (N := N_line_length) (sc := defScope s_line_length) (by decide +kernel)) (fun _ _ _ _ _ => (pg_tup rfl (pgs_cons (pg_name (i := 1) sc_line_length.nd rfl (Or.inl rfl)) (pgs_cons (pg_name (i := 2) sc_line_length.nd rfl (Or.inl rfl)) pgs_nil)))) (fun _ _ _ _ _ => pts_nil) (fun _ _ _ _ _ => (pv 2))) pa_nil)))), ?_⟩
    obtain ⟨vs, h1, hV⟩ := hA
    refine ⟨_, rfl, a, rfl, ⟨_, SqL.of h1⟩, fun D nD => lc_list (K := K) (a := a) (xs := vs) (fun i H' => Same H H' ∧ H' D = some (.lst (((l.take i).map fun e => (e.len : Int)).map V.int)))
      ⟨same_new nD, upd_same⟩ (fun i H' _ ⟨s5, _⟩ => SqL.of (s5 _ _ h1)) ?_ ?_⟩
    · rintro i x H1 hx ⟨s1, hD⟩
      obtain ⟨e, he, p, rfl, hp⟩ := hV.2 i x hx
      have hil : i < l.length := (List.getElem?_eq_some_iff.mp he).1
      refine ⟨p, _, rfl, SqT.of (s1 _ _ hp), rfl, _, _, rfl, _, _, rfl, rfl, rfl, ?_⟩
      refine ⟨_, rfl, _, hD, ?_, same_mut s1 nD, ?_⟩
      · rw [List.length_map, List.length_map]
        exact small1000 (Nat.le_trans (List.length_take_le ..) (by omega))
      · rw [upd_same, take_more he, List.map_append, List.map_append]
        rfl
    · rintro H1 ⟨s1, hD⟩
      rw [hV.1, List.take_length] at hD
      refine ⟨D, _, rfl, SqL.of hD, ?_⟩
      rw [← length_sum]
      exact q H1 s1
/-- degree -/
def spDegree : Sp := fun vs H Q _ => ∃ z t : Int, vs = [.int z, .int t] ∧ Q (.int (Cp08.degree t z)) H
theorem ok_degree (F : Fun K "degree" "degree" s_degree f fd) (T : Txt K mg A) : FnOk P w K mg base CX0 1 f fd ["step", "tonic"] spDegree := by
  refine F.ok sc_degree (fun vs H Q E h => ?_) (fun cdv A' outer s H vs Q E hr h => ?_)
  · obtain ⟨z, t, rfl, _⟩ := h
    rfl
  · obtain ⟨z, t, rfl, q⟩ := h
    refine ⟨_, (pss_one (ps_ret (pe_op op_mod (pe_op op_sub (pv 0) (pv 1)) (pe_cst (by rfl) T.c_STEPS_OF_AN_OCTAVE)))), ?_⟩
    exact v_mod (v_sub (val_var rfl) (val_var rfl)) val_c (by decide) _ q
/-- head_size -/
def spHead : Sp := fun vs H Q _ => ∃ (a : Addr) (l : Line) (t : Int), vs = [.ref a, .int t] ∧ LineAt H a l ∧ ∀ H', Same H H' → Q (.int (Cp08.headOf t l : Int)) H'
theorem ok_head_size (F : Fun K "head_size" "head_size" s_head_size f fd) (T : Txt K mg A) (C_degree : Fn P w K mg base "degree" 1 ["step", "tonic"] spDegree) : FnOk P w K mg base CX0 2 f fd ["events", "tonic"] spHead := by
  refine F.ok sc_head_size (fun vs H Q E h => ?_) (fun cdv A' outer s H vs Q E hr h => ?_)
  · obtain ⟨a, l, t, rfl, _⟩ := h
    rfl
  · obtain ⟨a, l, t, rfl, hA, q⟩ := h
    refine ⟨_, (pss_cons (ps_set (i := 2) sc_head_size.nd rfl (Or.inl rfl) pe_int)
      (pss_cons (ps_for PassesOwn.never rfl (pi_list (pv 0)) (pg_tup rfl (pgs_cons (pg_name (i := 3) sc_head_size.nd rfl (Or.inl rfl)) (pgs_cons (pg_name (i := 4) sc_head_size.nd rfl (Or.inl rfl)) pgs_nil))) (pss_cons (ps_if (PW.pt (pw_and (pt_cmpR op_notN (pv 3) pe_non (nomark _)) (pw_and1 (pt_cmpR op_notIn_seq (pe_fn C_degree (hr.mono (by decide)) (by rfl) (pa_cons (pv 3) (pa_cons (pv 1) pa_nil))) (pe_tup (pa_cons (pe_cst (by rfl) T.c_TONIC_DEGREE) (pa_cons (pe_cst (by rfl) T.c_DOMINANT_DEGREE) pa_nil))) (by rfl))))) (pss_one (ps_ret (pv 2))) pss_nil)
      (pss_one (ps_aug (i := 2) sc_head_size.nd rfl (Or.inl rfl) pe_int ip_add))))
      (pss_one (ps_ret (pv 2))))), ?_⟩
    obtain ⟨vs, h1, hV⟩ := hA
    refine ⟨_, rfl, a, rfl, ⟨_, SqL.of h1⟩, for_list (K := K) (a := a) (xs := vs) (fun i σ H' => ∃ v2 v3 : Option V, σ = [some (.ref a), some (.int t), some (.int (i : Int)), v2, v3] ∧ Same H H' ∧ ∀ e ∈ l.take i, offHead t e = false)
      ⟨none, none, rfl, .refl H, fun e h => nomatch h⟩ (fun i σ H' _ ⟨_, _, _, s5, _⟩ => SqL.of (s5 _ _ h1)) ?_ ?_⟩
    · rintro i x σ H1 hx ⟨v2, v3, rfl, s1, hO⟩
      obtain ⟨e, he, p, rfl, hp⟩ := hV.2 i x hx
      have hp1 := s1 _ _ hp
      have hil : i < l.length := (List.getElem?_eq_some_iff.mp he).1
      refine ⟨p, _, rfl, SqT.of hp1, rfl, _, _, rfl, _, _, rfl, rfl, ?_⟩
      have tst : AnsS _ _ H1 (offHead t e) := as_is (as_and (b := offHead t e) (as_of (a_test (v_notN (val_var (i := 3) (v := stepV e.n) (σ := [some (.ref a), some (.int t), some (.int (i : Int)), some (stepV e.n), some (.int (e.len : Int))]) rfl)))) fun c H2 s2 => as_is (as_test (vs_notIn (K := K) (p := 0) (q := 4) (z := Cp08.degree t (e.n.getD 0)) (v_call2 (sp := spDegree) (x := .int (e.n.getD 0)) (y := .int t) (val_var (i := 3) (by
          cases hn : e.n with
          | none =>
            rw [hn] at c
            cases c
          | some z => rfl)) (val_var (i := 1) rfl) fun Q q => ⟨_, _, rfl, q⟩))) (by
            unfold offHead
            cases hn : e.n with
            | none =>
              rw [hn] at c
              cases c
            | some z => rfl)) (by
        unfold offHead
        cases e.n with
        | none => rfl
        | some z => rfl)
      refine tst _ fun H2 s2 => if_b (fun c => ?_) fun c => ?_
      · refine ⟨_, rfl, ?_⟩
        have e2 : Cp08.headOf t l = i := by
          have h3 := headOf_pre t (l.take i) (l.drop i) hO
          rw [List.take_append_drop] at h3
          rw [h3, List.drop_eq_getElem_cons hil, headOf_cons]
          have e4 : l[i] = e := Option.some.inj ((List.getElem?_eq_getElem hil).symm.trans he)
          rw [e4, c, if_pos rfl, List.length_take, Nat.min_eq_left (Nat.le_of_lt hil)]
          rfl
        have := q H2 (s1.trans s2)
        rw [e2] at this
        exact this
      · refine ⟨_, rfl, _, _, rfl, rfl, _, _, rfl, s1.trans s2, fun x hx => ?_⟩
        rw [take_more he, List.mem_append] at hx
        cases hx with
        | inl hx => exact hO x hx
        | inr hx =>
          rw [List.mem_singleton] at hx
          subst hx
          exact c
    · rintro σ H1 ⟨v2, v3, rfl, s1, hO⟩
      refine ⟨_, rfl, ?_⟩
      rw [hV.1] at hO ⊢
      have h3 := headOf_pre t (l.take l.length) (l.drop l.length) hO
      rw [List.take_append_drop, List.take_length, List.drop_length, headOf_nil, Nat.add_zero] at h3
      have := q H1 s1
      rw [h3] at this
      exact this
end
end Fa

set_option Elab.async false
set_option linter.all false
set_option maxRecDepth 100000
set_option maxHeartbeats 4000000
namespace Fa
open PySem PySem.Spec PyProof.Rows L2
open Cp07 (Line Voice Table)
section
variable {P : Program} {w : World} {K : PySem.W.Frag} {mg : Str → Option Value} {base : Heap} {A : At} {f : Addr} {fd : FuncData}
/-- raised_event -/
def spRaisedE : Sp := fun vs H Q _ => ∃ (v : V) (e : Cp07.Event) (u : Int), vs = [v, .int u] ∧ EvAt H v e ∧ ∀ H' v', Same H H' → EvAt H' v' (raiseE u e) → Q v' H'
theorem ok_raised_event (F : Fun K "raised_event" "raised_event" s_raised_event f fd) (T : Txt K mg A) : FnOk P w K mg base CX0 1 f fd ["event", "steps"] spRaisedE := by
  refine F.ok sc_raised_event (fun vs H Q E h => ?_) (fun cdv A' outer s H vs Q E hr h => ?_)
  · obtain ⟨v, e, u, rfl, _⟩ := h
    rfl
  · obtain ⟨v, e, u, rfl, ⟨p, rfl, hp⟩, q⟩ := h
    refine ⟨_, (pss_cons (ps_if (pt_cmpR op_isN (pe_ix ix_tup (pv 0) pe_int (fun _ _ => rfl)) pe_non (nomark _)) (pss_one (ps_ret (pv 0))) pss_nil)
      (pss_one (ps_ret (pe_tup (pa_cons (pe_op op_add (pe_ix ix_tup (pv 0) pe_int (fun _ _ => rfl)) (pv 1)) (pa_cons (pe_ix ix_tup (pv 0) pe_int (fun _ _ => rfl)) pa_nil)))))), ?_⟩
    refine a_test (v_isN (v_ixT (val_var rfl) val_c (SqT.of hp) (atI_nat (j := 0) rfl))) _ (if_b (fun c => ?_) fun c => ?_)
    · rw [stepV_non] at c
      refine ⟨_, rfl, q H _ (.refl H) ⟨p, rfl, ?_⟩⟩
      rw [hp]
      unfold raiseE
      cases hn : e.n with
      | none => rfl
      | some z =>
        rw [hn] at c
        cases c
    · rw [stepV_non] at c
      cases hn : e.n with
      | none =>
        rw [hn] at c
        cases c
      | some z =>
        rw [hn] at hp
        refine v_add (v_ixT (val_var rfl) val_c (SqT.of hp) (atI_nat (j := 0) rfl)) (val_var rfl) _ ?_
        refine v_ixT (val_var rfl) val_c (SqT.of hp) (atI_nat (j := 1) rfl) _ ⟨(by show 2 ≤ sizeLine; decide), fun r nr => ?_⟩
        refine q _ _ (same_new nr) ⟨r, rfl, ?_⟩
        rw [upd_same]
        unfold raiseE
        rw [hn]
        rfl
/-- raised -/
def spRaised : Sp := fun vs H Q _ => ∃ (a : Addr) (l : Line) (u : Int), vs = [.ref a, .int u] ∧ LineAt H a l ∧ l.length ≤ 16 ∧ ∀ (H' : Hp) p, Same H H' → H p = none → LineAt H' p (l.map (raiseE u)) → Q (.ref p) H'
theorem ok_raised (F : Fun K "raised" "raised" s_raised f fd) (T : Txt K mg A) (C_raised_event : Fn P w K mg base "raised_event" 1 ["event", "steps"] spRaisedE) : FnOk P w K mg base CX0 2 f fd ["events", "steps"] spRaised := by
  refine F.ok sc_raised (fun vs H Q E h => ?_) (fun cdv A' outer s H vs Q E hr h => ?_)
  · obtain ⟨a, l, u, rfl, _⟩ := h
    rfl
  · obtain ⟨a, l, u, rfl, ⟨vs, h1, hV⟩, hn, q⟩ := h
    refine ⟨_, (pss_one (ps_ret (pe_lc (own := [("event", 2)]) (g := gName 2) rfl sc_raised.nd (pi_list (pv 0)) (blkOk_by (own := [("event", 2)]) (N := N_raised) (sc := defScope s_raised) (by decide +kernel)) (fun _ _ _ _ _ => (pg_name (i := 2) sc_raised.nd rfl (Or.inl rfl))) (fun _ _ _ _ _ => pts_nil) (fun _ _ _ _ _ => (pe_fn C_raised_event (hr.mono (by decide)) (by rfl) (pa_cons (pv 2) (pa_cons (pv 1) pa_nil))))))), ?_⟩
    refine ⟨_, rfl, a, rfl, ⟨_, SqL.of h1⟩, fun D nD => lc_list (K := K) (a := a) (xs := vs) (fun i H' => Same H H' ∧ LineAt H' D ((l.take i).map (raiseE u)))
      ⟨same_new nD, [], upd_same, Rel.nil⟩ (fun i H' _ ⟨s5, _⟩ => SqL.of (s5 _ _ h1)) ?_ ?_⟩
    · rintro i x H1 hx ⟨s1, acc, hD, hR⟩
      obtain ⟨e, he, hE⟩ := hV.2 i x hx
      refine ⟨rfl, _, rfl, _, rfl, x, e, u, rfl, hE.keep (.of s1), fun H2 v' s2 hE2 => ⟨acc, s2 _ _ hD, ?_, same_mut (s1.trans s2) nD, ?_⟩⟩
      · rw [hR.1, List.length_map]
        exact small1000 (Nat.le_trans (List.length_take_le' ..) (by omega))
      · rw [take_more he, List.map_append]
        exact LstAt.push (R := EvAt) (fun k q => q.keep k) (s2 _ _ hD) (hR.imp fun _ _ q => q.keep (.of s2)) hE2
    · rintro H1 ⟨s1, hD⟩
      rw [hV.1, List.take_length] at hD
      exact q H1 D s1 nD hD
/-- is_dominant -/
def spIsDom : Sp := fun vs H Q _ => ∃ (v : V) (e : Cp07.Event) (t : Int), vs = [v, .int t] ∧ EvAt H v e ∧ Q (.bl (isDom t e)) H
theorem ok_is_dominant (F : Fun K "is_dominant" "is_dominant" s_is_dominant f fd) (T : Txt K mg A) (C_degree : Fn P w K mg base "degree" 1 ["step", "tonic"] spDegree) : FnOk P w K mg base CX0 2 f fd ["event", "tonic"] spIsDom := by
  refine F.ok sc_is_dominant (fun vs H Q E h => ?_) (fun cdv A' outer s H vs Q E hr h => ?_)
  · obtain ⟨v, e, t, rfl, _⟩ := h
    rfl
  · obtain ⟨v, e, t, rfl, ⟨p, rfl, hp⟩, q⟩ := h
    refine ⟨_, (pss_one (ps_ret (pe_and (pe_cmpR op_notN (pe_ix ix_tup (pv 0) pe_int (fun _ _ => rfl)) pe_non (nomark _)) (pe_one (pe_cmpR op_eq (pe_fn C_degree (hr.mono (by decide)) (by rfl) (pa_cons (pe_ix ix_tup (pv 0) pe_int (fun _ _ => rfl)) (pa_cons (pv 1) pa_nil))) (pe_cst (by rfl) T.c_DOMINANT_DEGREE) (nomark _)))))), ?_⟩
    refine v_is (v_andV (b := isDom t e) (v_notN (v_ixT (val_var rfl) val_c (SqT.of hp) (atI_nat (j := 0) rfl))) (fun c => ?_)) ?_ _ q
    · cases hn : e.n with
      | none =>
        rw [hn] at c
        cases c
      | some z =>
        rw [hn] at hp
        refine v_is (v_eqI (v_call2 (v := .int (Cp08.degree t z)) (v_ixT (val_var rfl) val_c (SqT.of hp) (atI_nat (j := 0) rfl)) (val_var rfl) fun Q q => ⟨z, t, rfl, q⟩) val_c) ?_
        unfold isDom
        rw [hn]
        rfl
    · unfold isDom
      cases e.n with
      | none => rfl
      | some z => rfl
/-- answer_of -/
def spAnswer : Sp := fun vs H Q _ => ∃ (a : Addr) (l : Line) (t : Int), vs = [.ref a, .int t] ∧ LineAt H a l ∧ l.length ≤ 16 ∧ ∀ (H' : Hp) p, Same H H' → H p = none → LineAt H' p (Cp08.answer t l) → Q (.ref p) H'
theorem ok_answer_of (F : Fun K "answer_of" "answer_of" s_answer_of f fd) (T : Txt K mg A) (C_head_size : Fn P w K mg base "head_size" 2 ["events", "tonic"] spHead) (C_is_dominant : Fn P w K mg base "is_dominant" 2 ["event", "tonic"] spIsDom)
    (C_raised_event : Fn P w K mg base "raised_event" 1 ["event", "steps"] spRaisedE) (C_raised : Fn P w K mg base "raised" 2 ["events", "steps"] spRaised) : FnOk P w K mg base CX0 3 f fd ["events", "tonic"] spAnswer := by
  refine F.ok sc_answer_of (fun vs H Q E h => ?_) (fun cdv A' outer s H vs Q E hr h => ?_)
  · obtain ⟨a, l, t, rfl, _⟩ := h
    rfl
  · obtain ⟨a, l, t, rfl, hA, hn, q⟩ := h
    refine ⟨_, (pss_cons (ps_set (i := 2) sc_answer_of.nd rfl (Or.inl rfl) (pe_fn C_head_size (hr.mono (by decide)) (by rfl) (pa_cons (pv 0) (pa_cons (pv 1) pa_nil))))
      (pss_cons (ps_set (i := 3) sc_answer_of.nd rfl (Or.inl rfl) (pe_lst pa_nil))
      (pss_cons (ps_for PassesOwn.never rfl (pi_list (pe_slice sl_list (pv 0) po_none (po_some (pv 2)))) (pg_name (i := 4) sc_answer_of.nd rfl (Or.inl rfl)) (pss_cons (ps_set (i := 5) sc_answer_of.nd rfl (Or.inl rfl) (pe_ifExp (pt_val (pe_fn C_is_dominant (hr.mono (by decide)) (by rfl) (pa_cons (pv 4) (pa_cons (pv 1) pa_nil)))) (pe_cst (by rfl) T.c_FIFTH_OF_A_DOMINANT) (pe_cst (by rfl) T.c_FIFTH)))
      (pss_one (ps_expr (pe_bm PySem.F.plainAttrs_list PySem.F.slot_list_append PySem.F.type_list_append mt_append (pv 3) (pa_cons (pe_fn C_raised_event (hr.mono (by decide)) (by rfl) (pa_cons (pv 4) (pa_cons (pv 5) pa_nil))) pa_nil))))))
      (pss_one (ps_ret (pe_op op_cat (pv 3) (pe_fn C_raised (hr.mono (by decide)) (by rfl) (pa_cons (pe_slice sl_list (pv 0) (po_some (pv 2)) po_none) (pa_cons (pe_cst (by rfl) T.c_FIFTH) pa_nil))))))))), ?_⟩
    -- size = head_size(events, tonic)
    refine ⟨_, rfl, _, rfl, a, l, t, rfl, hA, fun H1 s1 => ?_⟩
    -- answered = []
    refine ⟨Nat.zero_le _, fun o no => ?_⟩
    have so : Same H1 (upd H1 o (.lst [])) := same_new no
    obtain ⟨vs, h0, hV⟩ := id hA
    have h1 := (s1.trans so) _ _ h0
    have no0 : H o = none := s1.free no
    -- for event in events[:size]
    refine ⟨_, rfl, _, rfl, _, rfl, a, vs, rfl, SqL.of h1, fun c nc => ?_⟩
    rw [cut_hi]
    have sc : Same (upd H1 o (.lst [])) (upd (upd H1 o (.lst [])) c (.lst (vs.take (Cp08.headOf t l)))) := same_new nc
    have nco : o ≠ c := ne_of_none upd_same nc
    have hT := hV.take (Cp08.headOf t l)
    refine ⟨c, rfl, ⟨_, SqL.of upd_same⟩, for_list (K := K) (a := c) (xs := vs.take (Cp08.headOf t l)) (fun i σ H' => ∃ v4 v5 : Option V, σ = [some (.ref a), some (.int t), some (.int (Cp08.headOf t l : Int)), some (.ref o), v4, v5] ∧ Same H H' ∧ Same H1 H' ∧ H' c = some (.lst (vs.take (Cp08.headOf t l))) ∧ LineAt H' o (((l.take (Cp08.headOf t l)).take i).map (ansE t)))
      ⟨none, none, rfl, s1.trans (so.trans sc), so.trans sc, upd_same, [], Eq.trans (upd_ne nco) upd_same, Rel.nil⟩ (fun i σ H' _ ⟨_, _, _, _, _, s5, _⟩ => SqL.of s5) ?_ ?_⟩
    · rintro i x σ H2 hx ⟨v4, v5, rfl, s2, s12, hC, acc, hO, hR⟩
      obtain ⟨e, he, hE0⟩ := hT.2 i x hx
      have hE : EvAt H2 x e := hE0.keep (.of s2)
      -- steps = ..
      refine v_if (v := .int (if isDom t e then 3 else 4)) (a_val (v_call2 (v := .bl (isDom t e)) (val_var rfl) (val_var rfl) fun Q q => ⟨x, e, t, rfl, hE, q⟩)) (fun c => v_is val_c (by rw [c]; rfl)) (fun c => v_is val_c (by rw [c]; rfl)) _ ?_
      -- answered.append(raised_event(event, steps))
      refine ⟨_, rfl, .inl ⟨rfl, _, SqL.of hO⟩, _, rfl, _, rfl, x, e, _, rfl, hE, fun H3 v' s3 hE3 => ?_⟩
      refine ⟨o, acc, v', rfl, rfl, s3 _ _ hO, ?_, ?_⟩
      · rw [hR.1, List.length_map]
        exact small1000 (Nat.le_trans (List.length_take_le' ..) (by rw [List.length_take]; omega))
      · refine ⟨_, _, rfl, same_mut (s2.trans s3) no0, same_mut (s12.trans s3) no, Eq.trans (upd_ne nco.symm) (s3 _ _ hC), ?_⟩
        rw [take_more he, List.map_append]
        exact LstAt.push (R := EvAt) (fun k q => q.keep k) (s3 _ _ hO) (hR.imp fun _ _ q => q.keep (.of s3)) hE3
    · rintro σ H2 ⟨v4, v5, rfl, s2, s12, hC, acc, hO, hR⟩
      rw [hT.1, List.take_length] at hR
      -- return answered + raised(events[size:], FIFTH)
      refine ⟨_, rfl, _, rfl, _, rfl, _, rfl, a, vs, rfl, SqL.of (s2 _ _ h0), fun d nd => ?_⟩
      rw [cut_lo]
      have sd : Same H2 (upd H2 d (.lst (vs.drop (Cp08.headOf t l)))) := same_new nd
      refine ⟨d, l.drop (Cp08.headOf t l), 4, rfl, ⟨_, upd_same, (hV.drop _).imp fun _ _ q => q.keep (.of (s2.trans sd))⟩, ?_, fun H3 r s3 nr hL => ?_⟩
      · rw [List.length_drop]
        omega
      · obtain ⟨ws, k1, k2⟩ := hL
        have hO3 := s3 _ _ (sd _ _ hO)
        refine ⟨o, r, acc, ws, rfl, rfl, hO3, k1, ?_, fun z nz => ?_⟩
        · rw [hR.1, k2.1, List.length_map, List.length_map, List.length_take, List.length_drop]
          exact Nat.le_of_lt (small1000 (by omega))
        · have s4 : Same H3 (upd H3 z (.lst (acc ++ ws))) := same_new nz
          have sA : Same H H3 := s2.trans (sd.trans s3)
          refine q _ z (sA.trans s4) (sA.free nz) ⟨_, upd_same, ?_⟩
          rw [answer_eq]
          exact ((hR.imp fun _ _ q => q.keep (.of (sd.trans s3))).append k2).imp fun _ _ q => q.keep (.of s4)
/-- changed_by_answer -/
def spChanged : Sp := fun vs H Q _ => ∃ (a : Addr) (l : Line) (t : Int), vs = [.ref a, .int t] ∧ LineAt H a l ∧ l.length ≤ 16 ∧ ∀ H', Same H H' → Q (.int (Cp08.same (Cp08.answer t l) (Cp08.real l) : Int)) H'
theorem ok_changed (F : Fun K "changed_by_answer" "changed_by_answer" s_changed_by_answer f fd) (T : Txt K mg A) (C_head_size : Fn P w K mg base "head_size" 2 ["events", "tonic"] spHead) (C_is_dominant : Fn P w K mg base "is_dominant" 2 ["event", "tonic"] spIsDom) :
    FnOk P w K mg base CX0 3 f fd ["events", "tonic"] spChanged := by
  refine F.ok sc_changed_by_answer (fun vs H Q E h => ?_) (fun cdv A' outer s H vs Q E hr h => ?_)
  · obtain ⟨a, l, t, rfl, _⟩ := h
    rfl
  · obtain ⟨a, l, t, rfl, hA, hn, q⟩ := h
    refine ⟨_, (pss_cons (ps_set (i := 2) sc_changed_by_answer.nd rfl (Or.inl rfl) (pe_slice sl_list (pv 0) po_none (po_some (pe_fn C_head_size (hr.mono (by decide)) (by rfl) (pa_cons (pv 0) (pa_cons (pv 1) pa_nil))))))
      (pss_one (ps_ret (pe_callB call_len_seq (by rfl) T.b_len (by decide +kernel) (pa_cons (pe_lc (own := [("event", 3)]) (g := gName 3) rfl sc_changed_by_answer.nd (pi_list (pv 2)) (blkOk_by (own := [("event", 3)]) (N := N_changed_by_answer) (sc := defScope s_changed_by_answer) (by decide +kernel)) (fun _ _ _ _ _ => (pg_name (i := 3) sc_changed_by_answer.nd rfl (Or.inl rfl))) (fun _ _ _ _ _ => (pts_one (pt_val (pe_fn C_is_dominant (hr.mono (by decide)) (by rfl) (pa_cons (pv 3) (pa_cons (pv 1) pa_nil)))))) (fun _ _ _ _ _ => (pv 3))) pa_nil))))), ?_⟩
    refine ⟨_, rfl, _, rfl, _, rfl, a, l, t, rfl, hA, fun H1 s1 => ?_⟩
    obtain ⟨vs, h1, hV⟩ := hA.same s1
    refine ⟨_, rfl, a, vs, rfl, SqL.of h1, fun c nc => ?_⟩
    rw [cut_hi]
    have sc : Same H1 (upd H1 c (.lst (vs.take (Cp08.headOf t l)))) := same_new nc
    have hT : Rel (EvAt (upd H1 c (.lst (vs.take (Cp08.headOf t l))))) (vs.take (Cp08.headOf t l)) (l.take (Cp08.headOf t l)) := (hV.take _).imp fun _ _ q => q.keep (.of sc)
    refine ⟨_, rfl, c, rfl, ⟨_, SqL.of upd_same⟩, fun D nD => lc_list (K := K) (a := c) (xs := vs.take (Cp08.headOf t l)) (fun i H' => Same (upd H1 c (.lst (vs.take (Cp08.headOf t l)))) H' ∧ ∃ ws, H' D = some (.lst ws) ∧ ws.length = (((l.take (Cp08.headOf t l)).take i).filter (isDom t)).length)
      ⟨same_new nD, [], upd_same, rfl⟩ (fun i H' _ ⟨s5, _⟩ => SqL.of (s5 _ _ upd_same)) ?_ ?_⟩
    · rintro i x H2 hx ⟨s2, ws, hD, hw⟩
      obtain ⟨e, he, hE⟩ := hT.2 i x hx
      refine ⟨rfl, ?_⟩
      refine a_val (v_call2 (v := .bl (isDom t e)) (val_var rfl) (val_var rfl) fun Q q => ⟨x, e, t, rfl, hE.keep (.of s2), q⟩) _ (if_b (fun c => ?_) fun c => ?_)
      · refine ⟨_, rfl, ws, hD, ?_, same_mut s2 nD, _, upd_same, ?_⟩
        · rw [hw]
          exact small1000 (Nat.le_trans (List.length_filter_le ..) (Nat.le_trans (List.length_take_le' ..) (by rw [List.length_take]; omega)))
        · rw [take_more he, List.filter_append, List.length_append, List.length_append, hw, List.filter_cons, c]
          rfl
      · refine ⟨s2, ws, hD, ?_⟩
        rw [take_more he, List.filter_append, List.length_append, hw, List.filter_cons, c]
        rfl
    · rintro H2 ⟨s2, ws, hD, hw⟩
      rw [hT.1, List.take_length] at hw
      refine ⟨D, ws, rfl, .inl (SqL.of hD), ?_⟩
      rw [hw, ← same_eq]
      exact q H2 (s1.trans (sc.trans s2))
end
end Fa

set_option Elab.async false
set_option linter.all false
set_option maxRecDepth 100000
set_option maxHeartbeats 4000000
namespace Fa
open PySem PySem.Spec PyProof.Rows L2
open Cp07 (Line Voice Table)
/-! ### fields -/
theorem lk_here {k : Str} {v : V} {r : List (Str × V)} : List.lookup k ((k, v) :: r) = some v := by
  have e : (k == k) = true := beq_self_eq_true k
  simp only [List.lookup, e]
theorem lk_past {k g : Str} {v : V} {r : List (Str × V)} (h : (k == g) = false) : List.lookup k ((g, v) :: r) = List.lookup k r := by
  simp only [List.lookup, h]
theorem put_here {f : Str} {v x : V} {r : List (Str × V)} : putF f v ((f, x) :: r) = (f, v) :: r := if_pos rfl
theorem put_past {f g : Str} {v x : V} {r : List (Str × V)} (h : ¬ g = f) : putF f v ((g, x) :: r) = (g, x) :: putF f v r := if_neg h
/-! ### moments -/
def moF (m : Mo) : List (Str × V) := [("time", .int (m.1 : Int)), ("first", stepV m.2.1), ("second", stepV m.2.2)]
theorem moF_time (m : Mo) : (moF m).lookup ("time" : Str) = some (.int (m.1 : Int)) := lk_here
theorem moF_first (m : Mo) : (moF m).lookup ("first" : Str) = some (stepV m.2.1) := (lk_past (by decide +kernel)).trans lk_here
theorem moF_second (m : Mo) : (moF m).lookup ("second" : Str) = some (stepV m.2.2) := (lk_past (by decide +kernel)).trans ((lk_past (by decide +kernel)).trans lk_here)
theorem moF_no (m : Mo) {k : Str} (h1 : (k == ("time" : Str)) = false) (h2 : (k == ("first" : Str)) = false) (h3 : (k == ("second" : Str)) = false) : (moF m).lookup k = none := (lk_past h1).trans ((lk_past h2).trans ((lk_past h3).trans rfl))
theorem moF_new (m : Mo) : putF "second" (stepV m.2.2) (putF "first" (stepV m.2.1) (putF "time" (.int (m.1 : Int)) [])) = moF m := by
  show putF "second" (stepV m.2.2) (putF "first" (stepV m.2.1) [("time", .int (m.1 : Int))]) = moF m
  rw [put_past (by decide +kernel)]
  show putF "second" (stepV m.2.2) [("time", .int (m.1 : Int)), ("first", stepV m.2.1)] = moF m
  rw [put_past (by decide +kernel), put_past (by decide +kernel)]
  rfl
def MoAt (A : At) (H : Hp) (v : V) (m : Mo) : Prop := ∃ p dx, v = .ref p ∧ H p = some (.ins A.Moment dx (moF m))
theorem MoAt.keep {A : At} {H H' : Hp} {v : V} {m : Mo} (k : Keeps H H') (h : MoAt A H v m) : MoAt A H' v m := by
  obtain ⟨p, dx, h1, h2⟩ := h
  exact ⟨p, dx, h1, k p _ h2 (fun xs z => by cases z)⟩
abbrev MosAt (A : At) : Hp → Addr → List Mo → Prop := LstAt (MoAt A)
theorem MosAt.same {A : At} {H H' : Hp} {a : Addr} {l : List Mo} (s : Same H H') (h : MosAt A H a l) : MosAt A H' a l := by
  obtain ⟨vs, h1, h2⟩ := h
  exact ⟨vs, s a _ h1, h2.imp fun v x q => q.keep (.of s)⟩
/-! ### voices -/
def PlAt (H : Hp) (v : V) (x : Placed) : Prop := ∃ p, v = .ref p ∧ H p = some (.tup [.int (x.1 : Int), .int (x.2.1 : Int), stepV x.2.2])
theorem PlAt.keep {H H' : Hp} {v : V} {x : Placed} (k : Keeps H H') (h : PlAt H v x) : PlAt H' v x := by
  obtain ⟨p, h1, h2⟩ := h
  exact ⟨p, h1, k p _ h2 (fun xs z => by cases z)⟩
abbrev VoiceAt : Hp → Addr → List Placed → Prop := LstAt PlAt
theorem VoiceAt.same {H H' : Hp} {a : Addr} {l : List Placed} (s : Same H H') (h : VoiceAt H a l) : VoiceAt H' a l := by
  obtain ⟨vs, h1, h2⟩ := h
  exact ⟨vs, s a _ h1, h2.imp fun v x q => q.keep (.of s)⟩
theorem placed_len : ∀ (s : Nat) (l : Line), (placedL s l).length = l.length
  | _, [] => rfl
  | s, e :: l => by
    show (placedL (s + e.len) l).length + 1 = l.length + 1
    rw [placed_len]
theorem abs_left (x y : Int) : (if x - y < 0 then -(x - y) else x - y) % 7 = (Cp07.left x y : Int) := by
  unfold Cp07.left
  by_cases h : x - y < 0
  · rw [if_pos h]
    omega
  · rw [if_neg h]
    omega
theorem meet_two {t : Nat} {o o' : Option Int} : ((o.isSome && o'.isSome) = (meetOf (t, o, o')).isSome) := by
  cases o <;> cases o' <;> rfl
section
variable {P : Program} {w : World} {K : PySem.W.Frag} {mg : Str → Option Value} {base : Heap} {A : At} {f : Addr} {fd : FuncData}
def spMoInit (A : At) : Sp := fun vs H Q _ => ∃ (p dx : Addr) (m : Mo), vs = [.ref p, .int (m.1 : Int), stepV m.2.1, stepV m.2.2] ∧ H p = some (.ins A.Moment dx []) ∧
  ∀ H' : Hp, H' p = some (.ins A.Moment dx (moF m)) → (∀ b o, H b = some o → b ≠ p → H' b = some o) → Q .non H'
theorem ok_Moment_init (F : Fun K "__init__" "Moment.__init__" s_Moment_init f fd) (T : Txt K mg A) : FnOk P w K mg base CX0 1 f fd ["self", "time", "first", "second"] (spMoInit A) := by
  refine F.ok sc_Moment_init (fun vs H Q E h => ?_) (fun cdv A' outer s H vs Q E hr h => ?_)
  · obtain ⟨p, dx, m, rfl, _⟩ := h
    rfl
  · obtain ⟨p, dx, m, rfl, hp, q⟩ := h
    refine ⟨_, (pss_cons (ps_fld (pv 0) (pv 1) rfl)
      (pss_cons (ps_fld (pv 0) (pv 2) rfl)
      (pss_one (ps_fld (pv 0) (pv 3) rfl)))), ?_⟩
    refine ⟨_, rfl, _, rfl, p, A.Moment, dx, [], rfl, hp, T.cl_Moment, T.n_Moment_time, (by show 0 < 1000; decide), ?_⟩
    refine ⟨_, rfl, _, rfl, p, A.Moment, dx, _, rfl, upd_same, T.cl_Moment, T.n_Moment_first, (by show 1 < 1000; decide), ?_⟩
    refine ⟨_, rfl, _, rfl, p, A.Moment, dx, _, rfl, upd_same, T.cl_Moment, T.n_Moment_second, ?_, ?_⟩
    · show (putF "first" (stepV m.2.1) [("time", V.int (m.1 : Int))]).length < 1000
      rw [put_past (by decide +kernel)]
      show 2 < 1000
      decide
    · refine q _ ?_ fun b o e hb => ?_
      · rw [upd_same, moF_new]
      · rw [upd_ne hb, upd_ne hb, upd_ne hb]
        exact e
def spIsMeeting (A : At) : Sp := fun vs H Q _ => ∃ (v : V) (m : Mo), vs = [v] ∧ MoAt A H v m ∧ Q (.bl (meetOf m).isSome) H
theorem stepV_not {o : Option Int} : (!decide (stepV o = V.non)) = o.isSome := by
  cases o <;> rfl
theorem v_fldM {σ : L2.St} {H : Hp} {ta : TE} {a C dx : Addr} {fs : List (Str × V)} {g : Str} {v : V} (h : Val ta σ H (.ref a)) (ho : H a = some (.ins C dx fs)) (hc : Cls K C) (hn : NoAttr K C g) (hl : fs.lookup g = some v) : Val (tFld K ta g) σ H v := val_fld h ho hc hn hl
theorem ok_is_meeting (F : Fun K "is_meeting" "Moment.is_meeting" s_Moment_is_meeting f fd) (T : Txt K mg A) : FnOk P w K mg base CX0 1 f fd ["self"] (spIsMeeting A) := by
  refine F.ok sc_Moment_is_meeting (fun vs H Q E h => ?_) (fun cdv A' outer s H vs Q E hr h => ?_)
  · obtain ⟨v, m, rfl, _⟩ := h
    rfl
  · obtain ⟨v, m, rfl, ⟨p, dx, rfl, hp⟩, q⟩ := h
    refine ⟨_, (pss_one (ps_ret (pe_and (pe_cmpR op_notN (pe_fld (pv 0) rfl) pe_non (nomark _)) (pe_one (pe_cmpR op_notN (pe_fld (pv 0) rfl) pe_non (nomark _)))))), ?_⟩
    refine v_is (v_andV (v_notN (val_fld (val_var rfl) hp T.cl_Moment T.n_Moment_first (moF_first m))) fun _ => v_notN (val_fld (val_var rfl) hp T.cl_Moment T.n_Moment_second (moF_second m))) ?_ _ q
    rw [stepV_not, stepV_not, meet_two (t := m.1)]
def spGap (A : At) : Sp := fun vs H Q _ => ∃ (v : V) (t : Nat) (x y : Int), vs = [v] ∧ MoAt A H v (t, some x, some y) ∧ Q (.int (Cp07.left x y : Int)) H
theorem ok_gap (F : Fun K "gap" "Moment.gap" s_Moment_gap f fd) (T : Txt K mg A) : FnOk P w K mg base CX0 1 f fd ["self"] (spGap A) := by
  refine F.ok sc_Moment_gap (fun vs H Q E h => ?_) (fun cdv A' outer s H vs Q E hr h => ?_)
  · obtain ⟨v, t, x, y, rfl, _⟩ := h
    rfl
  · obtain ⟨v, t, x, y, rfl, ⟨p, dx, rfl, hp⟩, q⟩ := h
    refine ⟨_, (pss_one (ps_ret (pe_op op_mod (pe_callB call_abs (by rfl) T.b_abs (by decide +kernel) (pa_cons (pe_op op_sub (pe_fld (pv 0) rfl) (pe_fld (pv 0) rfl)) pa_nil)) (pe_cst (by rfl) T.c_STEPS_OF_AN_OCTAVE)))), ?_⟩
    refine v_sub (i := x) (j := y) (val_fld (val_var rfl) hp T.cl_Moment T.n_Moment_first (moF_first _)) (val_fld (val_var rfl) hp T.cl_Moment T.n_Moment_second (moF_second _)) _ ⟨x - y, rfl, _, _, rfl, rfl, (by show (0 : Int) < 7; decide), ?_⟩
    show Q (V.int ((if x - y < 0 then -(x - y) else x - y) % 7)) H
    rw [abs_left]
    exact q
/-- placed -/
def spPlaced : Sp := fun vs H Q _ => ∃ (a : Addr) (l : Line) (s : Nat), vs = [.ref a, .int (s : Int)] ∧ LineAt H a l ∧ l.length ≤ 16 ∧ ∀ (H' : Hp) p, Same H H' → H p = none → VoiceAt H' p (placedL s l) → Q (.ref p) H'
theorem ok_placed (F : Fun K "placed" "placed" s_placed f fd) (T : Txt K mg A) : FnOk P w K mg base CX0 1 f fd ["events", "start"] spPlaced := by
  refine F.ok sc_placed (fun vs H Q E h => ?_) (fun cdv A' outer s H vs Q E hr h => ?_)
  · obtain ⟨a, l, t, rfl, _⟩ := h
    rfl
  · obtain ⟨a, l, t, rfl, ⟨vs, h1, hV⟩, hn, q⟩ := h
    refine ⟨_, (pss_cons (ps_set (i := 2) sc_placed.nd rfl (Or.inl rfl) (pe_lst pa_nil))
      (pss_cons (ps_set (i := 3) sc_placed.nd rfl (Or.inl rfl) (pv 1))
      (pss_cons (ps_for PassesOwn.never rfl (pi_list (pv 0)) (pg_tup rfl (pgs_cons (pg_name (i := 4) sc_placed.nd rfl (Or.inl rfl)) (pgs_cons (pg_name (i := 5) sc_placed.nd rfl (Or.inl rfl)) pgs_nil))) (pss_cons (ps_expr (pe_bm PySem.F.plainAttrs_list PySem.F.slot_list_append PySem.F.type_list_append mt_append (pv 2) (pa_cons (pe_tup (pa_cons (pv 3) (pa_cons (pe_op op_add (pv 3) (pv 5)) (pa_cons (pv 4) pa_nil)))) pa_nil)))
      (pss_one (ps_aug (i := 3) sc_placed.nd rfl (Or.inl rfl) (pv 5) ip_add))))
      (pss_one (ps_ret (pv 2)))))), ?_⟩
    refine ⟨Nat.zero_le _, fun o no => ?_⟩
    refine ⟨_, rfl, _, rfl, a, rfl, ⟨_, SqL.of ((same_new no) _ _ h1)⟩, for_list (K := K) (a := a) (xs := vs) (fun i σ H' => ∃ (v4 v5 : Option V) (b : Nat) (don : List Placed), σ = [some (.ref a), some (.int (t : Int)), some (.ref o), some (.int (b : Int)), v4, v5] ∧ Same H H' ∧ placedL t l = don ++ placedL b (l.drop i) ∧ don.length = i ∧ VoiceAt H' o don)
      ⟨none, none, t, [], rfl, same_new no, rfl, rfl, [], upd_same, Rel.nil⟩ (fun i σ H' _ ⟨_, _, _, _, _, s5, _⟩ => SqL.of (s5 _ _ h1)) ?_ ?_⟩
    · rintro i x σ H1 hx ⟨v4, v5, b, don, rfl, s1, hd, hdl, acc, hO, hR⟩
      obtain ⟨e, he, p, rfl, hp⟩ := hV.2 i x hx
      have hil : i < l.length := (List.getElem?_eq_some_iff.mp he).1
      refine ⟨p, _, rfl, SqT.of (s1 _ _ hp), rfl, _, _, rfl, _, _, rfl, rfl, ?_⟩
      -- voice.append((begin, begin + length, step))
      refine ⟨_, rfl, .inl ⟨rfl, _, SqL.of hO⟩, _, rfl, _, rfl, _, rfl, _, _, rfl, rfl, _, rfl, (by show 3 ≤ sizeLine; decide), fun r nr => ?_⟩
      have nro : o ≠ r := ne_of_none hO nr
      have sr := same_new (o := HO.tup [V.int (b : Int), V.int ((b : Int) + (e.len : Int)), stepV e.n]) nr
      refine ⟨o, acc, _, rfl, rfl, Eq.trans (upd_ne nro) hO, ?_, ?_⟩
      · rw [hR.1, hdl]
        exact small1000 (by omega)
      · refine ⟨_, rfl, _, rfl, _, _, rfl, rfl, _, _, b + e.len, don ++ [(b, b + e.len, e.n)], rfl, same_mut (s1.trans sr) no, ?_, ?_, ?_⟩
        · have e4 : l[i] = e := Option.some.inj ((List.getElem?_eq_getElem hil).symm.trans he)
          rw [hd, List.drop_eq_getElem_cons hil, e4, List.append_assoc]
          rfl
        · rw [List.length_append, hdl]
          rfl
        · exact LstAt.push (R := PlAt) (fun k q => q.keep k) (Eq.trans (upd_ne nro) hO) (hR.imp fun _ _ q => q.keep (.of sr)) ⟨r, rfl, by
            rw [upd_same]
            rfl⟩
    · rintro σ H1 ⟨v4, v5, b, don, rfl, s1, hd, hdl, hL⟩
      rw [hV.1, List.drop_length] at hd
      have e0 : placedL t l = don := by
        rw [hd]
        exact List.append_nil _
      rw [← e0] at hL
      exact ⟨_, rfl, q H1 o s1 no hL⟩
/-- step_at -/
def spStepAt : Sp := fun vs H Q _ => ∃ (a : Addr) (l : List Placed) (t : Nat), vs = [.ref a, .int (t : Int)] ∧ VoiceAt H a l ∧ Q (stepV (stepAt l t)) H
theorem ok_step_at (F : Fun K "step_at" "step_at" s_step_at f fd) (T : Txt K mg A) : FnOk P w K mg base CX0 1 f fd ["voice", "time"] spStepAt := by
  refine F.ok sc_step_at (fun vs H Q E h => ?_) (fun cdv A' outer s H vs Q E hr h => ?_)
  · obtain ⟨a, l, t, rfl, _⟩ := h
    rfl
  · obtain ⟨a, l, t, rfl, ⟨vs, h1, hV⟩, q⟩ := h
    refine ⟨_, (pss_cons (ps_for PassesOwn.never rfl (pi_list (pv 0)) (pg_tup rfl (pgs_cons (pg_name (i := 2) sc_step_at.nd rfl (Or.inl rfl)) (pgs_cons (pg_name (i := 3) sc_step_at.nd rfl (Or.inl rfl)) (pgs_cons (pg_name (i := 4) sc_step_at.nd rfl (Or.inl rfl)) pgs_nil)))) (pss_one (ps_if (pt_chain op_le op_lt (pv 2) (pv 1) (pv 3)) (pss_one (ps_ret (pv 4))) pss_nil)))
      (pss_one (ps_ret pe_non))), ?_⟩
    refine ⟨_, rfl, a, rfl, ⟨_, SqL.of h1⟩, for_list (K := K) (a := a) (xs := vs) (fun i σ H' => H' = H ∧ stepAt l t = stepAt (l.drop i) t ∧ ∃ v2 v3 v4 : Option V, σ = [some (.ref a), some (.int (t : Int)), v2, v3, v4])
      ⟨rfl, rfl, none, none, none, rfl⟩ (fun i σ H' _ ⟨e, _⟩ => by rw [e]; exact SqL.of h1) ?_ ?_⟩
    · rintro i x σ H1 hx ⟨rfl, hd, v2, v3, v4, rfl⟩
      obtain ⟨e, he, p, rfl, hp⟩ := hV.2 i x hx
      have hil : i < l.length := (List.getElem?_eq_some_iff.mp he).1
      have e4 : l[i] = e := Option.some.inj ((List.getElem?_eq_getElem hil).symm.trans he)
      rw [List.drop_eq_getElem_cons hil, e4] at hd
      refine ⟨p, _, rfl, SqT.of hp, rfl, _, _, rfl, _, _, rfl, _, _, rfl, rfl, ?_⟩
      refine a_test (v_chainG (val_var rfl) (val_var rfl) (val_var rfl)) _ (if_b (fun c => ?_) fun c => ?_)
      · simp only [Bool.and_eq_true, decide_eq_true_eq] at c
        refine ⟨_, rfl, ?_⟩
        have e5 : stepAt l t = e.2.2 := by
          rw [hd]
          show (if e.1 ≤ t ∧ t < e.2.1 then e.2.2 else stepAt (l.drop (i + 1)) t) = e.2.2
          rw [if_pos (by omega)]
        rw [e5] at q
        exact q
      · refine ⟨rfl, ?_, _, _, _, rfl⟩
        rw [hd]
        show (if e.1 ≤ t ∧ t < e.2.1 then e.2.2 else stepAt (l.drop (i + 1)) t) = _
        rw [if_neg]
        rintro ⟨c1, c2⟩
        rw [decide_eq_true (by omega), decide_eq_true (by omega)] at c
        cases c
    · rintro σ H1 ⟨rfl, hd, v2, v3, v4, rfl⟩
      rw [hV.1, List.drop_length] at hd
      rw [hd] at q
      exact q
end
end Fa

set_option Elab.async false
set_option linter.all false
set_option maxRecDepth 100000
set_option maxHeartbeats 4000000
namespace Fa
open PySem PySem.Spec PyProof.Rows L2
open Cp07 (Line Voice Table)
theorem sorted_uniqueI : ∀ {l m : List Int}, l.Pairwise (· < ·) → m.Pairwise (· < ·) → (∀ x, x ∈ l ↔ x ∈ m) → l = m
  | [], [], _, _, _ => rfl
  | [], y :: m, _, _, h => nomatch (h y).mpr (List.mem_cons_self ..)
  | x :: l, [], _, _, h => nomatch (h x).mp (List.mem_cons_self ..)
  | x :: l, y :: m, hl, hm, h => by
    have hl' := List.pairwise_cons.mp hl
    have hm' := List.pairwise_cons.mp hm
    have e : x = y := by
      have h1 := List.mem_cons.mp ((h x).mp (List.mem_cons_self ..))
      have h2 := List.mem_cons.mp ((h y).mpr (List.mem_cons_self ..))
      cases h1 with
      | inl e => exact e
      | inr h1 =>
        cases h2 with
        | inl e => exact e.symm
        | inr h2 =>
          have := hm'.1 x h1
          have := hl'.1 y h2
          omega
    subst e
    rw [sorted_uniqueI hl'.2 hm'.2]
    intro z
    constructor
    · intro hz
      have := hl'.1 z hz
      cases List.mem_cons.mp ((h z).mp (List.mem_cons_of_mem _ hz)) with
      | inl e => omega
      | inr q => exact q
    · intro hz
      have := hm'.1 z hz
      cases List.mem_cons.mp ((h z).mpr (List.mem_cons_of_mem _ hz)) with
      | inl e => omega
      | inr q => exact q
def toI (t : Nat) : Int := (t : Int)
theorem ints_moments {a b : Voice} {ns : List Int} (h1 : ns.Pairwise (· < ·)) (h2 : ∀ k : Int, k ∈ ns ↔ k ∈ (Cp07.begins a.1 a.2 ++ Cp07.begins b.1 b.2).map toI) : ns = (Cp07.moments a b).map toI := by
  refine sorted_uniqueI h1 ?_ fun k => ?_
  · rw [List.pairwise_map]
    refine (moments_lt a b).imp fun {x y} h => ?_
    show (x : Int) < (y : Int)
    omega
  · rw [h2, List.mem_map, List.mem_map]
    constructor
    · rintro ⟨t, h3, h4⟩
      exact ⟨t, (moments_mem a b t).mpr h3, h4⟩
    · rintro ⟨t, h3, h4⟩
      exact ⟨t, (moments_mem a b t).mp h3, h4⟩
section
variable {P : Program} {w : World} {K : PySem.W.Frag} {mg : Str → Option Value} {base : Heap} {A : At} {f : Addr} {fd : FuncData}
/-- moments_of -/
def spMoments (A : At) : Sp := fun vs H Q _ => ∃ (a b : Addr) (va vb : Voice), vs = [.ref a, .ref b] ∧ VoiceAt H a (placedL va.1 va.2) ∧ VoiceAt H b (placedL vb.1 vb.2) ∧ va.2.length ≤ 16 ∧ vb.2.length ≤ 16 ∧
  ∀ (H' : Hp) p, Same H H' → H p = none → MosAt A H' p (moList va vb) → Q (.ref p) H'
theorem ok_moments_of (F : Fun K "moments_of" "moments_of" s_moments_of f fd) (T : Txt K mg A) (C_step_at : Fn P w K mg base "step_at" 1 ["voice", "time"] spStepAt)
    (C_Moment_init : Nw P w K mg base "Moment" A.Moment 1 ["self", "time", "first", "second"] (spMoInit A)) : FnOk P w K mg base CX0 3 f fd ["first", "second"] (spMoments A) := by
  refine F.ok sc_moments_of (fun vs H Q E h => ?_) (fun cdv A' outer s H vs Q E hr h => ?_)
  · obtain ⟨a, b, va, vb, rfl, _⟩ := h
    rfl
  · obtain ⟨a, b, va, vb, rfl, hA, hB, na, nb, q⟩ := h
    refine ⟨_, (pss_cons (ps_setLc (i := 2) (own := [("event", 3)]) (g := gName 3) (te := tOp (rIxT K) (tVar 3) (tC (.int 0))) rfl sc_moments_of.nd rfl rfl (sw_true rfl rfl rfl (by decide +kernel)) (pi_list (pe_op op_cat (pv 0) (pv 1))) (blkOk_by (own := [("event", 3)]) (N := N_moments_of) (sc := defScope s_moments_of) (by decide +kernel)) (fun _ _ _ _ _ => (pg_name (i := 3) sc_moments_of.nd rfl (Or.inl rfl))) (fun _ _ _ _ _ => pts_nil) (fun _ _ _ _ _ => (pe_ix ix_tup (pv 3) pe_int (fun _ _ => rfl))))
      (pss_one (ps_ret (pe_lc (own := [("time", 4)]) (g := gName 4) rfl sc_moments_of.nd (pi_list (pe_callB (cr_sortedSet rfl) (by rfl) T.b_sorted (by decide +kernel) (pa_cons (pe_callTy (cr_setI rfl) (by rfl) T.b_set (by decide +kernel) (pa_cons (pv 2) pa_nil)) pa_nil))) (blkOk_by (own := [("time", 4)]) (N := N_moments_of) (sc := defScope s_moments_of) (by decide +kernel)) (fun _ _ _ _ _ => (pg_name (i := 4) sc_moments_of.nd rfl (Or.inl rfl))) (fun _ _ _ _ _ => pts_nil) (fun _ _ _ _ _ => (pe_new C_Moment_init (hr.mono (by decide)) (by rfl) (pa_cons (pv 4) (pa_cons (pe_fn C_step_at (hr.mono (by decide)) (by rfl) (pa_cons (pv 0) (pa_cons (pv 4) pa_nil))) (pa_cons (pe_fn C_step_at (hr.mono (by decide)) (by rfl) (pa_cons (pv 1) (pa_cons (pv 4) pa_nil))) pa_nil))))))))), ?_⟩
    obtain ⟨xa, ha, ra⟩ := id hA
    obtain ⟨xb, hb, rb⟩ := id hB
    have la := ra.1
    have lb := rb.1
    rw [placed_len] at la lb
    -- begins = [event[0] for event in first + second]
    refine ⟨_, rfl, _, rfl, a, b, xa, xb, rfl, rfl, ha, hb, Nat.le_of_lt (small1000 (by omega)), fun c nc => ?_⟩
    have sc : Same H (upd H c (.lst (xa ++ xb))) := same_new nc
    have rab : Rel (PlAt H) (xa ++ xb) (placedL va.1 va.2 ++ placedL vb.1 vb.2) := ra.append rb
    refine ⟨c, rfl, ⟨_, SqL.of upd_same⟩, fun D nD => lc_list (K := K) (a := c) (xs := xa ++ xb) (fun i H' => Same (upd H c (.lst (xa ++ xb))) H' ∧ H' D = some (.lst ((((placedL va.1 va.2 ++ placedL vb.1 vb.2).take i).map fun x => toI x.1).map V.int)))
      ⟨same_new nD, upd_same⟩ (fun i H' _ ⟨s5, _⟩ => SqL.of (s5 _ _ upd_same)) ?_ ?_⟩
    · rintro i x H1 hx ⟨s1, hD⟩
      obtain ⟨e, he, p, rfl, hp⟩ := rab.2 i x hx
      refine ⟨rfl, ?_⟩
      refine v_ixT (val_var rfl) val_c (SqT.of (s1 _ _ (sc _ _ hp))) (atI_nat (j := 0) rfl) _ ⟨_, hD, ?_, same_mut s1 nD, ?_⟩
      · rw [List.length_map, List.length_map]
        exact small1000 (Nat.le_trans (List.length_take_le' ..) (by rw [List.length_append, placed_len, placed_len]; omega))
      · rw [upd_same, take_more he, List.map_append, List.map_append]
        rfl
    · rintro H1 ⟨s1, hD⟩
      rw [rab.1, List.take_length] at hD
      have hbeg : (placedL va.1 va.2 ++ placedL vb.1 vb.2).map (fun x => toI x.1) = (Cp07.begins va.1 va.2 ++ Cp07.begins vb.1 vb.2).map toI := by
        rw [List.map_append, List.map_append, ← begins_placed, ← begins_placed, List.map_map, List.map_map]
        rfl
      rw [hbeg] at hD
      have hlen : ((Cp07.begins va.1 va.2 ++ Cp07.begins vb.1 vb.2).map toI).length ≤ 32 := by
        rw [← hbeg, List.length_map, List.length_append, placed_len, placed_len]
        omega
      -- sorted(set(begins))
      refine ⟨_, rfl, D, _, rfl, SqL.of hD, by omega, fun g n hn ng => ?_⟩
      refine ⟨g, _, n, rfl, upd_same, by omega, fun ns r hs hm hl nr => ?_⟩
      have sg := same_new (o := SetO w g (fun j => decide (j ∈ (Cp07.begins va.1 va.2 ++ Cp07.begins vb.1 vb.2).map toI)) n) ng
      have ens : ns = (Cp07.moments va vb).map toI := ints_moments hs fun k => by
        rw [hm, decide_eq_true_eq]
      subst ens
      have sr := same_new (o := HO.lst (((Cp07.moments va vb).map toI).map V.int)) nr
      have sA := (sc.trans s1).trans (sg.trans sr)
      refine ⟨r, rfl, ⟨_, SqL.of upd_same⟩, fun D2 nD2 => ?_⟩
      have nD0 := sA.free nD2
      refine lc_list (K := K) (a := r) (xs := ((Cp07.moments va vb).map toI).map V.int) (fun i H' => Same H H' ∧ H' r = some (.lst (((Cp07.moments va vb).map toI).map V.int)) ∧ MosAt A H' D2 (((Cp07.moments va vb).take i).map (moAt va vb)))
        ⟨sA.trans (same_new nD2), (same_new nD2) _ _ upd_same, [], upd_same, Rel.nil⟩ (fun i H' _ ⟨_, s5, _⟩ => SqL.of s5) ?_ ?_
      · rintro i x H2 hx ⟨s2, hr2, acc, hD2, hR⟩
        rw [List.getElem?_map, List.getElem?_map] at hx
        cases ht : (Cp07.moments va vb)[i]? with
        | none =>
          rw [ht] at hx
          cases hx
        | some t =>
          rw [ht] at hx
          have ex : x = .int (t : Int) := (Option.some.inj hx).symm
          subst ex
          have hil : i < (Cp07.moments va vb).length := (List.getElem?_eq_some_iff.mp ht).1
          have hml : (Cp07.moments va vb).length ≤ 32 := by
            rw [List.length_map] at hl
            omega
          refine ⟨rfl, _, rfl, _, rfl, _, rfl, a, _, t, rfl, hA.same s2, _, rfl, _, rfl, b, _, t, rfl, hB.same s2, fun z dz nz ndz nez => ?_⟩
          refine ⟨z, dz, moAt va vb t, ?_, upd_same, fun H3 h3 k3 => ⟨rfl, acc, ?_, ?_, ?_⟩⟩
          · show [V.ref z, V.int (t : Int), stepV (stepAt (placedL va.1 va.2) t), stepV (stepAt (placedL vb.1 vb.2) t)] = [V.ref z, V.int (t : Int), stepV (sounds va t), stepV (sounds vb t)]
            rw [stepAt_eq, stepAt_eq]
          · exact Same.made nz ndz k3 _ _ hD2
          · rw [hR.1, List.length_map]
            exact small1000 (Nat.le_trans (List.length_take_le' ..) (by omega))
          · have s3 : Same H2 H3 := Same.made nz ndz k3
            have hD3 := s3 _ _ hD2
            have nrD : r ≠ D2 := ne_of_none upd_same nD2
            refine ⟨same_mut (s2.trans s3) nD0, Eq.trans (upd_ne nrD) (s3 _ _ hr2), ?_⟩
            rw [take_more ht, List.map_append]
            exact LstAt.push (R := MoAt A) (fun k q => q.keep k) hD3 (hR.imp fun _ _ q => q.keep (.of s3)) ⟨z, dz, rfl, h3⟩
      · rintro H2 ⟨s2, hr2, hL⟩
        rw [List.length_map, List.length_map, List.take_length] at hL
        exact q H2 D2 s2 nD0 hL
end
end Fa

set_option Elab.async false
set_option linter.all false
set_option maxRecDepth 100000
set_option maxHeartbeats 4000000
namespace Fa
open PySem PySem.Spec PyProof.Rows L2
open Cp07 (Line Voice Table)
/-! ### parallels -/
def parB (p x : Nat × Int × Int) : Bool := decide (Cp07.left p.2.1 p.2.2 = Cp07.left x.2.1 x.2.2 ∧ (Cp07.left p.2.1 p.2.2 = 0 ∨ Cp07.left p.2.1 p.2.2 = 4) ∧ 0 < (x.2.1 - p.2.1) * (x.2.2 - p.2.2))
theorem par_eq (q : Table) (p x : Nat × Int × Int) : Cp07.parallels q p x = if parB p x then q.parallel else 0 := by
  unfold Cp07.parallels parB
  by_cases h : Cp07.left p.2.1 p.2.2 = Cp07.left x.2.1 x.2.2 ∧ (Cp07.left p.2.1 p.2.2 = 0 ∨ Cp07.left p.2.1 p.2.2 = 4) ∧ 0 < (x.2.1 - p.2.1) * (x.2.2 - p.2.2)
  · rw [decide_eq_true h, if_pos rfl]
    exact if_pos h
  · rw [decide_eq_false h, if_neg Bool.false_ne_true]
    exact if_neg h
def parA (ahead : Option Mo) (x : Nat × Int × Int) : Bool := match ahead.bind meetOf with
  | some p => parB p x
  | none => false
theorem parOf_eq (q : Table) (ahead : Option Mo) (x : Nat × Int × Int) : parOf q ahead x = if parA ahead x then q.parallel else 0 := by
  unfold parOf parA
  cases ahead.bind meetOf with
  | none => rfl
  | some p => exact par_eq q p x
theorem mul_pos_iff {a b : Int} : 0 < a * b ↔ (0 < a ∧ 0 < b) ∨ (a < 0 ∧ b < 0) := by
  constructor
  · intro h
    by_cases ha : 0 < a
    · refine .inl ⟨ha, ?_⟩
      rw [Int.mul_comm] at h
      exact Int.pos_of_mul_pos_left h ha
    · by_cases h0 : a = 0
      · subst h0
        rw [Int.zero_mul] at h
        omega
      · refine .inr ⟨by omega, ?_⟩
        have h2 : 0 < (-a) * (-b) := by
          rw [Int.neg_mul_neg]
          exact h
        rw [Int.mul_comm] at h2
        have := Int.pos_of_mul_pos_left h2 (by omega : 0 < -a)
        omega
  · rintro (⟨h1, h2⟩ | ⟨h1, h2⟩)
    · exact Int.mul_pos h1 h2
    · have := Int.mul_pos (show 0 < -a by omega) (show 0 < -b by omega)
      rw [Int.neg_mul_neg] at this
      exact this
section
variable {P : Program} {w : World} {K : PySem.W.Frag} {mg : Str → Option Value} {base : Heap} {A : At} {f : Addr} {fd : FuncData}
def isMeet (m : Mo) : Bool := (meetOf m).isSome
/-- meetings_of -/
def spMeetings (A : At) : Sp := fun vs H Q _ => ∃ (a b : Addr) (va vb : Voice), vs = [.ref a, .ref b] ∧ VoiceAt H a (placedL va.1 va.2) ∧ VoiceAt H b (placedL vb.1 vb.2) ∧ va.2.length ≤ 16 ∧ vb.2.length ≤ 16 ∧
  ∀ (H' : Hp) p, Same H H' → H p = none → MosAt A H' p ((moList va vb).filter isMeet) → Q (.ref p) H'
theorem mo_len {va vb : Voice} (h1 : va.2.length ≤ 16) (h2 : vb.2.length ≤ 16) : (moList va vb).length ≤ 32 := by
  unfold moList Cp07.moments
  rw [List.length_map, List.length_mergeSort]
  have hd : ∀ (l acc : List Nat), (l.foldl (fun l t => if l.contains t then l else l ++ [t]) acc).length ≤ acc.length + l.length := by
    intro l
    induction l with
    | nil => intro acc; exact Nat.le_refl _
    | cons x l ih =>
      intro acc
      rw [List.foldl_cons, List.length_cons]
      refine Nat.le_trans (ih _) ?_
      split
      · omega
      · rw [List.length_append, List.length_singleton]
        omega
  refine Nat.le_trans (hd _ _) ?_
  rw [List.length_append, ← begins_placed, ← begins_placed, List.length_map, List.length_map, placed_len, placed_len]
  show 0 + _ ≤ 32
  omega
theorem ok_meetings_of (F : Fun K "meetings_of" "meetings_of" s_meetings_of f fd) (T : Txt K mg A) (C_moments_of : Fn P w K mg base "moments_of" 3 ["first", "second"] (spMoments A)) (C_Moment_is_meeting : Mt P w K mg base A.Moment "is_meeting" 1 ["self"] (spIsMeeting A)) :
    FnOk P w K mg base CX0 4 f fd ["first", "second"] (spMeetings A) := by
  refine F.ok sc_meetings_of (fun vs H Q E h => ?_) (fun cdv A' outer s H vs Q E hr h => ?_)
  · obtain ⟨a, b, va, vb, rfl, _⟩ := h
    rfl
  · obtain ⟨a, b, va, vb, rfl, hA, hB, na, nb, q⟩ := h
    refine ⟨_, (pss_one (ps_ret (pe_lc (own := [("moment", 2)]) (g := gName 2) rfl sc_meetings_of.nd (pi_list (pe_fn C_moments_of (hr.mono (by decide)) (by rfl) (pa_cons (pv 0) (pa_cons (pv 1) pa_nil)))) (blkOk_by (own := [("moment", 2)]) (N := N_meetings_of) (sc := defScope s_meetings_of) (by decide +kernel)) (fun _ _ _ _ _ => (pg_name (i := 2) sc_meetings_of.nd rfl (Or.inl rfl))) (fun _ _ _ _ _ => (pts_one (pt_val (pe_mt0 (pv 2) T.cl_Moment C_Moment_is_meeting (hr.mono (by decide)))))) (fun _ _ _ _ _ => (pv 2))))), ?_⟩
    have hml := mo_len na nb
    refine ⟨_, rfl, _, rfl, a, b, va, vb, rfl, hA, hB, na, nb, fun H1 c s1 nc hL => ?_⟩
    obtain ⟨vs, h1, hV⟩ := hL
    refine ⟨c, rfl, ⟨_, SqL.of h1⟩, fun D nD => lc_list (K := K) (a := c) (xs := vs) (fun i H' => Same H1 H' ∧ MosAt A H' D (((moList va vb).take i).filter isMeet))
      ⟨same_new nD, [], upd_same, Rel.nil⟩ (fun i H' _ ⟨s5, _⟩ => SqL.of (s5 _ _ h1)) ?_ ?_⟩
    · rintro i x H2 hx ⟨s2, acc, hD, hR⟩
      obtain ⟨m, hm, hM0⟩ := hV.2 i x hx
      have hM : MoAt A H2 x m := hM0.keep (.of s2)
      obtain ⟨p, dx, rfl, hp⟩ := id hM
      refine ⟨rfl, _, rfl, p, dx, _, rfl, hp, moF_no _ (by decide +kernel) (by decide +kernel) (by decide +kernel), _, m, rfl, hM, _, rfl, if_b (fun c => ?_) fun c => ?_⟩
      · refine ⟨_, rfl, acc, hD, ?_, same_mut s2 nD, ?_⟩
        · rw [hR.1]
          exact small1000 (Nat.le_trans (List.length_filter_le ..) (Nat.le_trans (List.length_take_le' ..) (by omega)))
        · have e : isMeet m = true := c
          rw [take_more hm, List.filter_append, List.filter_cons, if_pos e, List.filter_nil]
          exact LstAt.push (R := MoAt A) (fun k q => q.keep k) hD hR hM
      · have e : isMeet m = false := c
        refine ⟨s2, acc, hD, ?_⟩
        rw [take_more hm, List.filter_append, List.filter_cons, if_neg (by rw [e]; exact Bool.false_ne_true), List.filter_nil, List.append_nil]
        exact hR
    · rintro H2 ⟨s2, hL⟩
      rw [hV.1, List.take_length] at hL
      exact q H2 D (s1.trans s2) (s1.free nD) hL
/-- are_parallels -/
def AhAt (A : At) (H : Hp) (v : V) (o : Option Mo) : Prop := match o with
  | none => v = .non
  | some m => MoAt A H v m
def spParallels (A : At) : Sp := fun vs H Q _ => ∃ (v u : V) (o : Option Mo) (t : Nat) (x y : Int), vs = [v, u] ∧ AhAt A H v o ∧ MoAt A H u (t, some x, some y) ∧ Q (.bl (parA o (t, x, y))) H
theorem meet_some {m : Mo} (h : isMeet m = true) : ∃ t x y, m = (t, some x, some y) := by
  obtain ⟨t, o, o'⟩ := m
  cases o with
  | none => cases h
  | some x =>
    cases o' with
    | none => cases h
    | some y => exact ⟨t, x, y, rfl⟩
theorem ok_are_parallels (F : Fun K "are_parallels" "are_parallels" s_are_parallels f fd) (T : Txt K mg A) (C_Moment_is_meeting : Mt P w K mg base A.Moment "is_meeting" 1 ["self"] (spIsMeeting A))
    (C_Moment_gap : Mt P w K mg base A.Moment "gap" 1 ["self"] (spGap A)) : FnOk P w K mg base CX0 2 f fd ["ahead", "meeting"] (spParallels A) := by
  refine F.ok sc_are_parallels (fun vs H Q E h => ?_) (fun cdv A' outer s H vs Q E hr h => ?_)
  · obtain ⟨v, u, o, t, x, y, rfl, _⟩ := h
    rfl
  · obtain ⟨v, u, o, t, x, y, rfl, hO, hM, q⟩ := h
    refine ⟨_, (pss_cons (ps_if (PW.pt (pw_or (pt_cmpR op_isN (pv 0) pe_non (nomark _)) (pw_or1 (pt_not (pt_val (pe_mt0 (pv 0) T.cl_Moment C_Moment_is_meeting (hr.mono (by decide)))))))) (pss_one (ps_ret pe_bl)) pss_nil)
      (pss_cons (ps_if (PW.pt (pw_or (pt_cmpR op_notIn_seq (pe_mt0 (pv 1) T.cl_Moment C_Moment_gap (hr.mono (by decide))) (pe_gref (by rfl) T.t_PARALLEL_GAPS) (by rfl)) (pw_or1 (pt_cmpR op_ne (pe_mt0 (pv 1) T.cl_Moment C_Moment_gap (hr.mono (by decide))) (pe_mt0 (pv 0) T.cl_Moment C_Moment_gap (hr.mono (by decide))) (nomark _))))) (pss_one (ps_ret pe_bl)) pss_nil)
      (pss_cons (ps_set (i := 2) sc_are_parallels.nd rfl (Or.inl rfl) (pe_and (pe_cmpR op_gt (pe_fld (pv 1) rfl) (pe_fld (pv 0) rfl) (nomark _)) (pe_one (pe_cmpR op_gt (pe_fld (pv 1) rfl) (pe_fld (pv 0) rfl) (nomark _)))))
      (pss_cons (ps_set (i := 3) sc_are_parallels.nd rfl (Or.inl rfl) (pe_and (pe_cmpR op_lt (pe_fld (pv 1) rfl) (pe_fld (pv 0) rfl) (nomark _)) (pe_one (pe_cmpR op_lt (pe_fld (pv 1) rfl) (pe_fld (pv 0) rfl) (nomark _)))))
      (pss_one (ps_ret (pe_or (pv 2) (pe_one (pv 3))))))))), ?_⟩
    cases o with
    | none =>
      have e : v = .non := hO
      subst e
      refine a_or (a := true) (b := true) (a_test (v_isN (x := .non) (val_var rfl))) (fun c => by cases c) _ ?_
      exact q
    | some m =>
      have hO' : MoAt A H v m := hO
      obtain ⟨p, dx, rfl, hp⟩ := id hO'
      obtain ⟨p2, dx2, rfl, hp2⟩ := id hM
      have nm : (moF m).lookup ("is_meeting" : Str) = none := moF_no _ (by decide +kernel) (by decide +kernel) (by decide +kernel)
      refine a_or (a := false) (b := !isMeet m) (a_test (v_isN (x := .ref p) (val_var rfl))) (fun _ => a_not (a_val fun Q q => ⟨_, rfl, p, dx, _, rfl, hp, nm, _, m, rfl, hO', q⟩)) _ (if_b (fun c => ?_) fun c => ?_)
      · have c' : isMeet m = false := by simpa using c
        have e : parA (some m) (t, x, y) = false := by
          unfold parA
          show (match meetOf m with
            | some p => parB p (t, x, y)
            | none => false) = false
          cases hm : meetOf m with
          | none => rfl
          | some z =>
            unfold isMeet at c'
            rw [hm] at c'
            cases c'
        rw [e] at q
        exact q
      · have c' : isMeet m = true := by simpa using c
        obtain ⟨t0, x0, y0, rfl⟩ := meet_some c'
        have ng : ∀ z : Mo, (moF z).lookup ("gap" : Str) = none := fun z => moF_no _ (by decide +kernel) (by decide +kernel) (by decide +kernel)
        have vg : ∀ Q : VK, Q (.int (Cp07.left x y : Int)) H → tMeth A.Moment "gap" (spGap A) [] E0 (tVar 1) tNil (L2.start N_are_parallels [V.ref p, V.ref p2]) H Q := fun Q q => ⟨_, rfl, p2, dx2, _, rfl, hp2, ng _, _, t, x, y, rfl, hM, q⟩
        have vg0 : ∀ Q : VK, Q (.int (Cp07.left x0 y0 : Int)) H → tMeth A.Moment "gap" (spGap A) [] E0 (tVar 0) tNil (L2.start N_are_parallels [V.ref p, V.ref p2]) H Q := fun Q q => ⟨_, rfl, p, dx, _, rfl, hp, ng _, _, t0, x0, y0, rfl, hO', q⟩
        have ePar : parA (some (t0, some x0, some y0)) (t, x, y) = parB (t0, x0, y0) (t, x, y) := rfl
        rw [ePar] at q
        refine a_or (a_test (v_notInT vg (T.w_PARALLEL_GAPS H))) (fun _ => a_test (v_neI vg vg0)) _ (if_b (fun d => ?_) fun d => ?_)
        · have e : parB (t0, x0, y0) (t, x, y) = false := by
            unfold parB
            refine decide_eq_false ?_
            rintro ⟨h1, h2, _⟩
            dsimp only at h1 h2
            simp at d
            omega
          rw [e] at q
          exact q
        · have hgap : Cp07.left x0 y0 = Cp07.left x y ∧ (Cp07.left x0 y0 = 0 ∨ Cp07.left x0 y0 = 4) := by
            simp at d
            omega
          have f1 := fun (σ : L2.St) (h : σ[1]? = some (some (V.ref p2))) => val_fld (K := K) (val_var (i := 1) h) hp2 T.cl_Moment T.n_Moment_first (moF_first (t, some x, some y))
          have f2 := fun (σ : L2.St) (h : σ[1]? = some (some (V.ref p2))) => val_fld (K := K) (val_var (i := 1) h) hp2 T.cl_Moment T.n_Moment_second (moF_second (t, some x, some y))
          have g1 := fun (σ : L2.St) (h : σ[0]? = some (some (V.ref p))) => val_fld (K := K) (val_var (i := 0) h) hp T.cl_Moment T.n_Moment_first (moF_first (t0, some x0, some y0))
          have g2 := fun (σ : L2.St) (h : σ[0]? = some (some (V.ref p))) => val_fld (K := K) (val_var (i := 0) h) hp T.cl_Moment T.n_Moment_second (moF_second (t0, some x0, some y0))
          refine v_andV (v_gt (i := x) (j := x0) (f1 _ rfl) (g1 _ rfl)) (fun _ => v_gt (i := y) (j := y0) (f2 _ rfl) (g2 _ rfl)) _ ?_
          refine v_andV (v_lt (i := x) (j := x0) (f1 _ rfl) (g1 _ rfl)) (fun _ => v_lt (i := y) (j := y0) (f2 _ rfl) (g2 _ rfl)) _ ?_
          refine v_is (v_orV (val_var rfl) fun _ => val_var rfl) ?_ _ q
          congr 1
          unfold parB
          rw [Bool.eq_iff_iff]
          simp only [Bool.or_eq_true, Bool.and_eq_true, decide_eq_true_eq]
          rw [mul_pos_iff]
          constructor
          · rintro (h | h)
            · exact ⟨hgap.1, hgap.2, .inl ⟨by omega, by omega⟩⟩
            · exact ⟨hgap.1, hgap.2, .inr ⟨by omega, by omega⟩⟩
          · rintro ⟨_, _, h | h⟩
            · exact .inl ⟨by omega, by omega⟩
            · exact .inr ⟨by omega, by omega⟩
end
end Fa

set_option Elab.async false
set_option linter.all false
set_option maxRecDepth 100000
set_option maxHeartbeats 4000000
namespace Fa
open PySem PySem.Spec PyProof.Rows L2
open Cp07 (Line Voice Table)
/-! ### prices -/
def SeqI (K : PySem.W.Frag) (H : Hp) (a : Addr) (ns : List Int) : Prop := SqL K H a (ns.map V.int) ∨ SqT K H a (ns.map V.int)
theorem SqT.same {K : PySem.W.Frag} {H H' : Hp} {a : Addr} {xs : List V} (e : Same H H') (h : SqT K H a xs) : SqT K H' a xs := by
  rcases h with (h | ⟨o, h⟩) | h
  · exact .inl (.inl (e _ _ h))
  · exact .inl (.inr ⟨o, e _ _ h⟩)
  · exact .inr h
theorem SeqI.same {K : PySem.W.Frag} {H H' : Hp} {a : Addr} {ns : List Int} (e : Same H H') (h : SeqI K H a ns) : SeqI K H' a ns := by
  rcases h with h | h
  · exact .inl (e.seq h)
  · exact .inr (SqT.same e h)
/-- a list or a tuple of its own -/
def SeqH (H : Hp) (a : Addr) (ns : List Int) : Prop := H a = some (.lst (ns.map V.int)) ∨ H a = some (.tup (ns.map V.int))
theorem SeqH.seq {K : PySem.W.Frag} {H : Hp} {a : Addr} {ns : List Int} (h : SeqH H a ns) : SeqI K H a ns := by
  rcases h with h | h
  · exact .inl (SqL.of h)
  · exact .inr (SqT.of h)
theorem SeqH.same {H H' : Hp} {a : Addr} {ns : List Int} (e : Same H H') (h : SeqH H a ns) : SeqH H' a ns := by
  rcases h with h | h
  · exact .inl (e _ _ h)
  · exact .inr (e _ _ h)
theorem SeqH.eq {H H' : Hp} {a : Addr} {ns : List Int} (e : H' a = H a) (h : SeqH H a ns) : SeqH H' a ns := by
  rcases h with h | h
  · exact .inl (e.trans h)
  · exact .inr (e.trans h)
structure TabOk (q : Table) : Prop where
  on : q.on.length = 7
  off : q.off.length = 7
  beat : 1 ≤ q.beat
def prF (a b : Addr) (q : Table) : List (Str × V) := [("on_beat", .ref a), ("off_beat", .ref b), ("parallels", .int (q.parallel : Int)), ("beat", .int (q.beat : Int))]
theorem prF_on (a b : Addr) (q : Table) : (prF a b q).lookup ("on_beat" : Str) = some (.ref a) := lk_here
theorem prF_off (a b : Addr) (q : Table) : (prF a b q).lookup ("off_beat" : Str) = some (.ref b) := (lk_past (by decide +kernel)).trans lk_here
theorem prF_par (a b : Addr) (q : Table) : (prF a b q).lookup ("parallels" : Str) = some (.int (q.parallel : Int)) := (lk_past (by decide +kernel)).trans ((lk_past (by decide +kernel)).trans lk_here)
theorem prF_beat (a b : Addr) (q : Table) : (prF a b q).lookup ("beat" : Str) = some (.int (q.beat : Int)) := (lk_past (by decide +kernel)).trans ((lk_past (by decide +kernel)).trans ((lk_past (by decide +kernel)).trans lk_here))
theorem prF_gap (a b : Addr) (q : Table) : (prF a b q).lookup ("gap_price" : Str) = none := (lk_past (by decide +kernel)).trans ((lk_past (by decide +kernel)).trans ((lk_past (by decide +kernel)).trans ((lk_past (by decide +kernel)).trans rfl)))
theorem prF_new (x y z u : V) : putF "beat" u (putF "parallels" z (putF "off_beat" y (putF "on_beat" x []))) = ([("on_beat", x), ("off_beat", y), ("parallels", z), ("beat", u)] : List (Str × V)) := by
  show putF "beat" u (putF "parallels" z (putF "off_beat" y [("on_beat", x)])) = _
  rw [put_past (by decide +kernel)]
  show putF "beat" u (putF "parallels" z [("on_beat", x), ("off_beat", y)]) = _
  rw [put_past (by decide +kernel), put_past (by decide +kernel)]
  show putF "beat" u [("on_beat", x), ("off_beat", y), ("parallels", z)] = _
  rw [put_past (by decide +kernel), put_past (by decide +kernel), put_past (by decide +kernel)]
  rfl
structure PriceAt (A : At) (K : PySem.W.Frag) (H : Hp) (p a b : Addr) (q : Table) : Prop where
  obj : ∃ dx, H p = some (.ins A.Prices dx (prF a b q))
  on : SeqH H a (q.on.map toI)
  off : SeqH H b (q.off.map toI)
  ok : TabOk q
theorem PriceAt.same {A : At} {K : PySem.W.Frag} {H H' : Hp} {p a b : Addr} {q : Table} (e : Same H H') (h : PriceAt A K H p a b q) : PriceAt A K H' p a b q := by
  obtain ⟨dx, h1⟩ := h.obj
  exact ⟨⟨dx, e _ _ h1⟩, h.on.same e, h.off.same e, h.ok⟩
def tabOf (ns : List Int) : Table := ⟨(ns.take 7).map Int.toNat, ((ns.drop 7).take 7).map Int.toNat, (ns.getD 14 0).toNat, (ns.getD 15 0).toNat⟩
theorem toI_toNat {ns : List Int} (h : ∀ n ∈ ns, 0 ≤ n) : (ns.map Int.toNat).map toI = ns := by
  rw [List.map_map]
  have : ∀ n ∈ ns, (toI ∘ Int.toNat) n = n := fun n hn => Int.toNat_of_nonneg (h n hn)
  rw [List.map_congr_left this, List.map_id']
theorem price_idx (l : List Nat) (k : Nat) (h : k < l.length) : atI ((l.map toI).map V.int) ((k : Nat) : Int) = some (.int (l.getD k 0 : Nat)) := by
  refine atI_nat ?_
  rw [List.getElem?_map, List.getElem?_map, List.getElem?_eq_getElem h, List.getD_eq_getElem?_getD, List.getElem?_eq_getElem h]
  rfl
theorem left_lt (x y : Int) : Cp07.left x y < 7 := Nat.mod_lt _ (by decide)
section
variable {P : Program} {w : World} {K : PySem.W.Frag} {mg : Str → Option Value} {base : Heap} {A : At} {f : Addr} {fd : FuncData}
/-- Prices.__init__ -/
def spPrInit (A : At) (K : PySem.W.Frag) : Sp := fun vs H Q _ => ∃ (p dx c : Addr) (ns : List Int), vs = [.ref p, .ref c] ∧ H p = some (.ins A.Prices dx []) ∧ SeqI K H c ns ∧ ns.length = 16 ∧ (∀ n ∈ ns, 0 ≤ n) ∧
  1 ≤ ns.getD 15 0 ∧ ∀ (H' : Hp) a b, H a = none → H b = none → PriceAt A K H' p a b (tabOf ns) → (∀ b o, H b = some o → b ≠ p → H' b = some o) → Q .non H'
theorem seq_cut {H : Hp} {c : Addr} {ns : List Int} {lo hi : Option Int} {Q : VK} (h : SeqI K H c ns) (nw : ¬ (HT.sIx (ns.map V.int).length 0 lo = 0 ∧ HT.sIx (ns.map V.int).length (ns.map V.int).length hi = (ns.map V.int).length)) {ms : List Int} (e : cutV (ns.map V.int) lo hi = ms.map V.int)
    (q : ∀ p H', H p = none → SeqH H' p ms → Same H H' → (∀ b, b ≠ p → H' b = H b) → Q (.ref p) H') : rSlL K (.ref c) lo hi H Q ∨ rSlT K (.ref c) lo hi H Q := by
  rcases h with h | h
  · refine .inl ⟨c, _, rfl, h, fun p hp => q p _ hp (.inl ?_) (same_new hp) fun b hb => upd_ne hb⟩
    rw [upd_same, e]
  · refine .inr ⟨c, _, rfl, h, nw, fun p hp => q p _ hp (.inr ?_) (same_new hp) fun b hb => upd_ne hb⟩
    rw [upd_same, e]
theorem seq_ix {H : Hp} {c : Addr} {ns : List Int} {i : Int} {v : V} {Q : VK} (h : SeqI K H c ns) (e : atI (ns.map V.int) i = some v) (q : Q v H) : rIx K (.ref c) (.int i) H Q := by
  rcases h with h | h
  · exact .inl ⟨c, _, i, v, rfl, rfl, h, e, q⟩
  · exact .inr (.inl ⟨c, _, i, v, rfl, rfl, h, e, q⟩)
theorem v_ixSeq {σ : L2.St} {H : Hp} {ta tb : TE} {c : Addr} {ns : List Int} {i : Int} {v : V} (ha : Val ta σ H (.ref c)) (hb : Val tb σ H (.int i)) (h : SeqI K H c ns) (e : atI (ns.map V.int) i = some v) : Val (tOp (rIx K) ta tb) σ H v := fun _ q => ha _ (hb _ (seq_ix h e q))
theorem ok_Prices_init (F : Fun K "__init__" "Prices.__init__" s_Prices_init f fd) (T : Txt K mg A) : FnOk P w K mg base CX0 1 f fd ["self", "numbers"] (spPrInit A K) := by
  refine F.ok sc_Prices_init (fun vs H Q E h => ?_) (fun cdv A' outer s H vs Q E hr h => ?_)
  · obtain ⟨p, dx, c, ns, rfl, _⟩ := h
    rfl
  · obtain ⟨p, dx, c, ns, rfl, hp, hS, hn, hpos, hb, q⟩ := h
    refine ⟨_, (pss_cons (ps_fld (pv 0) (pe_slice (sl_list.or sl_tup) (pv 1) po_none (po_some (pe_cst (by rfl) T.c_OFF_BEAT_FROM))) rfl)
      (pss_cons (ps_fld (pv 0) (pe_slice (sl_list.or sl_tup) (pv 1) (po_some (pe_cst (by rfl) T.c_OFF_BEAT_FROM)) (po_some (pe_cst (by rfl) T.c_PARALLELS_AT))) rfl)
      (pss_cons (ps_fld (pv 0) (pe_ix ix_seq (pv 1) (pe_cst (by rfl) T.c_PARALLELS_AT) (fun _ _ => rfl)) rfl)
      (pss_one (ps_fld (pv 0) (pe_ix ix_seq (pv 1) (pe_cst (by rfl) T.c_BEAT_AT) (fun _ _ => rfl)) rfl))))), ?_⟩
    have hl : (ns.map V.int).length = 16 := by rw [List.length_map, hn]
    have e7 : HT.sIx (ns.map V.int).length (ns.map V.int).length (some ((7 : Nat) : Int)) = min 7 (ns.map V.int).length := HT.sIx_nat _ _ 7
    have e14 : HT.sIx (ns.map V.int).length (ns.map V.int).length (some ((14 : Nat) : Int)) = min 14 (ns.map V.int).length := HT.sIx_nat _ _ 14
    refine ⟨_, rfl, _, rfl, seq_cut hS (ms := ns.take 7) ?_ ?_ fun a H1 na sa s1 k1 => ?_⟩
    · rintro ⟨_, h2⟩
      have h3 := e7.symm.trans h2
      omega
    · rw [show (7 : Int) = ((7 : Nat) : Int) from rfl, cut_hi, List.map_take]
    have npa : p ≠ a := ne_of_none hp na
    refine ⟨_, rfl, p, A.Prices, dx, [], rfl, s1 _ _ hp, T.cl_Prices, T.n_Prices_on_beat, (by show 0 < 1000; decide), ?_⟩
    generalize hH2 : upd H1 p (HO.ins A.Prices dx (putF "on_beat" (V.ref a) [])) = H2
    have kp2 : ∀ b, b ≠ p → H2 b = H1 b := fun b hb => by rw [← hH2, upd_ne hb]
    have hp2 : H2 p = some (.ins A.Prices dx (putF "on_beat" (V.ref a) [])) := by rw [← hH2, upd_same]
    have seqK : ∀ {G G' : Hp} {z : Addr} {ms : List Int}, (∀ b, b ≠ p → G' b = G b) → (∀ xs, G p ≠ some (.lst xs)) → (∀ xs, G p ≠ some (.tup xs)) → (∀ o u, G p ≠ some (.frz o u)) → SeqI K G z ms → SeqI K G' z ms := by
      intro G G' z ms k n1 n2 n3 h
      rcases h with ((h | ⟨o, h⟩) | h) | ((h | ⟨o, h⟩) | h)
      · exact .inl (.inl (.inl ((k z fun e => n1 _ (e ▸ h)).trans h)))
      · exact .inl (.inl (.inr ⟨o, (k z fun e => n3 _ _ (e ▸ h)).trans h⟩))
      · exact .inl (.inr h)
      · exact .inr (.inl (.inl ((k z fun e => n2 _ (e ▸ h)).trans h)))
      · exact .inr (.inl (.inr ⟨o, (k z fun e => n3 _ _ (e ▸ h)).trans h⟩))
      · exact .inr (.inr h)
    have nk : ∀ {G : Hp} {C dz : Addr} {fs : List (Str × V)}, G p = some (.ins C dz fs) → (∀ xs, G p ≠ some (.lst xs)) ∧ (∀ xs, G p ≠ some (.tup xs)) ∧ (∀ o u, G p ≠ some (.frz o u)) := fun e => ⟨fun xs z => (by rw [e] at z; cases z), fun xs z => (by rw [e] at z; cases z), fun o u z => (by rw [e] at z; cases z)⟩
    have hS2 : SeqI K H2 c ns := seqK kp2 (nk (s1 _ _ hp)).1 (nk (s1 _ _ hp)).2.1 (nk (s1 _ _ hp)).2.2 (hS.same s1)
    have sa2 : SeqH H2 a (ns.take 7) := sa.eq (kp2 a npa.symm)
    refine ⟨_, rfl, _, rfl, _, rfl, seq_cut hS2 (ms := (ns.drop 7).take 7) ?_ ?_ fun b H3 nb sb s3 k3 => ?_⟩
    · rintro ⟨_, h2⟩
      have h3 := e14.symm.trans h2
      omega
    · rw [show (7 : Int) = ((7 : Nat) : Int) from rfl, show (14 : Int) = ((14 : Nat) : Int) from rfl, cut_mid, List.map_take, List.map_drop]
    have npb : p ≠ b := ne_of_none hp2 nb
    refine ⟨_, rfl, p, A.Prices, dx, _, rfl, s3 _ _ hp2, T.cl_Prices, T.n_Prices_off_beat, (by show 1 < 1000; decide), ?_⟩
    generalize hH4 : upd H3 p (HO.ins A.Prices dx (putF "off_beat" (V.ref b) (putF "on_beat" (V.ref a) []))) = H4
    have kp4 : ∀ b, b ≠ p → H4 b = H3 b := fun b hb => by rw [← hH4, upd_ne hb]
    have hp4 : H4 p = some (.ins A.Prices dx (putF "off_beat" (V.ref b) (putF "on_beat" (V.ref a) []))) := by rw [← hH4, upd_same]
    have k34 := nk (s3 _ _ hp2)
    have hS4 : SeqI K H4 c ns := seqK kp4 k34.1 k34.2.1 k34.2.2 (hS2.same s3)
    have sa4 : SeqH H4 a (ns.take 7) := (sa2.same s3).eq (kp4 a npa.symm)
    have sb4 : SeqH H4 b ((ns.drop 7).take 7) := sb.eq (kp4 b npb.symm)
    have h14 : atI (ns.map V.int) 14 = some (.int (ns.getD 14 0)) := by
      have hi : 14 < ns.length := by omega
      rw [List.getD_eq_getElem?_getD, List.getElem?_eq_getElem hi]
      exact ix_int (i := 14) (List.getElem?_eq_getElem hi)
    have h15 : atI (ns.map V.int) 15 = some (.int (ns.getD 15 0)) := by
      have hi : 15 < ns.length := by omega
      rw [List.getD_eq_getElem?_getD, List.getElem?_eq_getElem hi]
      exact ix_int (i := 15) (List.getElem?_eq_getElem hi)
    refine ⟨_, rfl, seq_ix hS4 h14 ?_⟩
    refine ⟨_, rfl, p, A.Prices, dx, _, rfl, hp4, T.cl_Prices, T.n_Prices_parallels, ?_, ?_⟩
    · show (putF "off_beat" (V.ref b) [("on_beat", V.ref a)]).length < 1000
      rw [put_past (by decide +kernel)]
      show 2 < 1000
      decide
    generalize hH5 : upd H4 p (HO.ins A.Prices dx (putF "parallels" (V.int (ns.getD 14 0)) (putF "off_beat" (V.ref b) (putF "on_beat" (V.ref a) [])))) = H5
    have kp5 : ∀ b, b ≠ p → H5 b = H4 b := fun b hb => by rw [← hH5, upd_ne hb]
    have hp5 : H5 p = some (.ins A.Prices dx (putF "parallels" (V.int (ns.getD 14 0)) (putF "off_beat" (V.ref b) (putF "on_beat" (V.ref a) [])))) := by rw [← hH5, upd_same]
    have k45 := nk hp4
    refine ⟨_, rfl, seq_ix (seqK kp5 k45.1 k45.2.1 k45.2.2 hS4) h15 ?_⟩
    refine ⟨_, rfl, p, A.Prices, dx, _, rfl, hp5, T.cl_Prices, T.n_Prices_beat, ?_, ?_⟩
    · show (putF "parallels" (V.int (ns.getD 14 0)) (putF "off_beat" (V.ref b) [("on_beat", V.ref a)])).length < 1000
      rw [put_past (by decide +kernel)]
      show (putF "parallels" (V.int (ns.getD 14 0)) [("on_beat", V.ref a), ("off_beat", V.ref b)]).length < 1000
      rw [put_past (by decide +kernel), put_past (by decide +kernel)]
      show 3 < 1000
      decide
    have k56 := nk hp5
    have kp6 : ∀ z, z ≠ p → (upd H5 p (HO.ins A.Prices dx (putF "beat" (V.int (ns.getD 15 0)) (putF "parallels" (V.int (ns.getD 14 0)) (putF "off_beat" (V.ref b) (putF "on_beat" (V.ref a) [])))))) z = H5 z := fun z hz => upd_ne hz
    have hmem : ∀ k : Nat, k < 16 → 0 ≤ ns.getD k 0 := fun k hk => by
      have hi : k < ns.length := by omega
      rw [List.getD_eq_getElem?_getD, List.getElem?_eq_getElem hi]
      exact hpos _ (List.getElem_mem hi)
    refine q _ a b na (s1.free (by rw [← kp2 b npb.symm]; exact nb)) ⟨⟨dx, ?_⟩, ?_, ?_, ⟨?_, ?_, ?_⟩⟩ fun z o hz hzp => ?_
    · rw [upd_same, prF_new]
      unfold prF tabOf
      dsimp only
      rw [Int.toNat_of_nonneg (hmem 14 (by omega)), Int.toNat_of_nonneg (hmem 15 (by omega))]
    · refine (SeqH.eq (kp5 a npa.symm) ?_).eq (kp6 a npa.symm)
      unfold tabOf
      dsimp only
      rw [toI_toNat fun n hn => hpos n (List.mem_of_mem_take hn)]
      exact sa4
    · refine (SeqH.eq (kp5 b npb.symm) ?_).eq (kp6 b npb.symm)
      unfold tabOf
      dsimp only
      rw [toI_toNat fun n hn => hpos n (List.mem_of_mem_drop (List.mem_of_mem_take hn))]
      exact sb4
    · show (((ns.take 7).map Int.toNat)).length = 7
      rw [List.length_map, List.length_take]
      omega
    · show ((((ns.drop 7).take 7).map Int.toNat)).length = 7
      rw [List.length_map, List.length_take, List.length_drop]
      omega
    · show 1 ≤ (ns.getD 15 0).toNat
      omega
    · rw [kp6 z hzp, kp5 z hzp, kp4 z hzp]
      exact s3 _ _ (by rw [kp2 z hzp]; exact s1 _ _ hz)
/-- gap_price -/
def spGapPrice (A : At) (K : PySem.W.Frag) : Sp := fun vs H Q _ => ∃ (p a b : Addr) (q : Table) (t : Nat) (x y : Int), vs = [.ref p, .int (t : Int), .int (Cp07.left x y : Int)] ∧ PriceAt A K H p a b q ∧ Q (.int (Cp07.price q (t, x, y) : Int)) H
theorem ok_gap_price (F : Fun K "gap_price" "Prices.gap_price" s_Prices_gap_price f fd) (T : Txt K mg A) : FnOk P w K mg base CX0 1 f fd ["self", "time", "gap"] (spGapPrice A K) := by
  refine F.ok sc_Prices_gap_price (fun vs H Q E h => ?_) (fun cdv A' outer s H vs Q E hr h => ?_)
  · obtain ⟨p, a, b, q, t, x, y, rfl, _⟩ := h
    rfl
  · obtain ⟨p, a, b, q, t, x, y, rfl, hP, k⟩ := h
    refine ⟨_, (pss_cons (ps_if (pt_cmpR op_eq (pe_op op_mod (pv 1) (pe_fld (pv 0) rfl)) pe_int (nomark _)) (pss_one (ps_ret (pe_ix ix_seq (pe_fld (pv 0) rfl) (pv 2) (fun _ _ => rfl)))) pss_nil)
      (pss_one (ps_ret (pe_ix ix_seq (pe_fld (pv 0) rfl) (pv 2) (fun _ _ => rfl))))), ?_⟩
    obtain ⟨dx, hp⟩ := hP.obj
    have hb := hP.ok.beat
    refine a_test (v_eqI (v_mod (val_var rfl) (val_fld (val_var rfl) hp T.cl_Prices T.n_Prices_beat (prF_beat _ _ _)) (by omega)) val_c) _ (if_b (fun c => ?_) fun c => ?_)
    · have c' := of_decide_eq_true c
      refine v_ixSeq (val_fld (val_var rfl) hp T.cl_Prices T.n_Prices_on_beat (prF_on _ _ _)) (val_var rfl) hP.on.seq (price_idx _ _ (by rw [hP.ok.on]; exact left_lt x y)) _ ?_
      have e : Cp07.price q (t, x, y) = q.on.getD (Cp07.left x y) 0 := by
        unfold Cp07.price
        rw [if_pos (by show t % q.beat = 0; omega)]
      rw [e] at k
      exact k
    · have c' := of_decide_eq_false c
      refine v_ixSeq (val_fld (val_var rfl) hp T.cl_Prices T.n_Prices_off_beat (prF_off _ _ _)) (val_var rfl) hP.off.seq (price_idx _ _ (by rw [hP.ok.off]; exact left_lt x y)) _ ?_
      have e : Cp07.price q (t, x, y) = q.off.getD (Cp07.left x y) 0 := by
        unfold Cp07.price
        rw [if_neg (by show ¬ t % q.beat = 0; omega)]
      rw [e] at k
      exact k
end
end Fa

set_option Elab.async false
set_option linter.all false
set_option maxRecDepth 100000
set_option maxHeartbeats 4000000
namespace Fa
open PySem PySem.Spec PyProof.Rows L2
open Cp07 (Line Voice Table)
theorem s_qif {σ : L2.St} {H : Hp} {c : TT} {b : Bool} {t1 t2 u : TS} {D : Ends} (h : Ans c σ H b) (q : if b = true then t1 { D with nx := u D } σ H else t2 { D with nx := u D } σ H) : tSeq (tIfS c t1 t2) u D σ H := h _ q
theorem costGo_cons (q : Table) (p : Option Mo) (x : Mo) (l : List Mo) : costGo q p (x :: l) = match meetOf x with
    | some z => (z.1, Cp07.price q z + parOf q p z) :: costGo q (some x) l
    | none => costGo q (some x) l := by
  rw [costGo.eq_def] <;> rfl
theorem costGo_snoc (q : Table) (m : Mo) : ∀ (l : List Mo) (p : Option Mo), costGo q p (l ++ [m]) = costGo q p l ++ costGo q (l.getLast?.or p) [m]
  | [], p => rfl
  | x :: l, p => by
    have ih := costGo_snoc q m l (some x)
    have e : (x :: l).getLast?.or p = l.getLast?.or (some x) := by
      cases l with
      | nil => rfl
      | cons y r =>
        rw [List.getLast?_cons_cons]
        cases h : (y :: r).getLast? with
        | none => simp at h
        | some z => rfl
    rw [e, List.cons_append, costGo_cons, costGo_cons q p x l, ih]
    cases meetOf x with
    | none => rfl
    | some z => rfl
theorem costGo_more {q : Table} {l : List Mo} {i : Nat} {m : Mo} (h : l[i]? = some m) : costGo q none (l.take (i + 1)) = costGo q none (l.take i) ++ (match meetOf m with
    | some x => [(x.1, Cp07.price q x + parOf q (l.take i).getLast? x)]
    | none => []) := by
  rw [take_more h, costGo_snoc, Option.or_none]
  congr 1
theorem costGo_len (q : Table) : ∀ (l : List Mo) (p : Option Mo), (costGo q p l).length ≤ l.length
  | [], _ => Nat.le_refl _
  | x :: l, p => by
    have ih := costGo_len q l (some x)
    unfold costGo
    cases meetOf x with
    | none =>
      show (costGo q (some x) l).length ≤ l.length + 1
      omega
    | some z =>
      show (costGo q (some x) l).length + 1 ≤ l.length + 1
      omega
def aboveL (a b : Voice) : List Nat := ((Cp07.meetings a b).filter fun m => decide (m.2.2 < m.2.1)).map fun m => m.1
def upM (m : Mo) : Bool := match meetOf m with
  | some x => decide (x.2.2 < x.2.1)
  | none => false
theorem above_eq : ∀ l : List Mo, ((l.filter isMeet).filter upM).map (fun m => m.1) = ((l.filterMap meetOf).filter fun m => decide (m.2.2 < m.2.1)).map fun m => m.1
  | [] => rfl
  | m :: l => by
    have ih := above_eq l
    rw [List.filter_cons, List.filterMap_cons]
    cases hm : meetOf m with
    | none =>
      have e : isMeet m = false := by
        unfold isMeet
        rw [hm]
        rfl
      rw [e, if_neg Bool.false_ne_true]
      exact ih
    | some x =>
      have e : isMeet m = true := by
        unfold isMeet
        rw [hm]
        rfl
      have e2 : upM m = decide (x.2.2 < x.2.1) := by
        unfold upM
        rw [hm]
      rw [e, if_pos rfl, List.filter_cons, e2]
      show _ = List.map _ (List.filter _ (x :: l.filterMap meetOf))
      rw [List.filter_cons]
      by_cases c : x.2.2 < x.2.1
      · rw [decide_eq_true c, if_pos rfl, if_pos rfl, List.map_cons, List.map_cons, ih, meetOf_time hm]
      · rw [decide_eq_false c, if_neg Bool.false_ne_true, if_neg Bool.false_ne_true, ih]
def CostAt (H : Hp) (v : V) (x : Nat × Nat) : Prop := ∃ p, v = .ref p ∧ H p = some (.tup [.int (x.1 : Int), .int (x.2 : Int)])
theorem CostAt.keep {H H' : Hp} {v : V} {x : Nat × Nat} (k : Keeps H H') (h : CostAt H v x) : CostAt H' v x := by
  obtain ⟨p, h1, h2⟩ := h
  exact ⟨p, h1, k p _ h2 (fun xs z => by cases z)⟩
theorem AhAt.keep {A : At} {H H' : Hp} {v : V} {o : Option Mo} (k : Keeps H H') (h : AhAt A H v o) : AhAt A H' v o := by
  cases o with
  | none => exact h
  | some m => exact MoAt.keep k h
section
variable {P : Program} {w : World} {K : PySem.W.Frag} {mg : Str → Option Value} {base : Heap} {A : At} {f : Addr} {fd : FuncData}
/-- are_prices -/
def goodPr (ns : List Int) : Bool := Cp07.isIn 1 512 (ns.getD 15 0) && (ns.take 15).all (Cp07.isIn 0 100)
def spArePrices : Sp := fun vs H Q _ => ∃ (a : Addr) (ns : List Int), vs = [.ref a] ∧ H a = some (.lst (ns.map V.int)) ∧ ns.length = 16 ∧ ∀ H', Same H H' → Q (.bl (goodPr ns)) H'
theorem ok_are_prices (F : Fun K "are_prices" "are_prices" s_are_prices f fd) (T : Txt K mg A) : FnOk P w K mg base CX0 1 f fd ["numbers"] spArePrices := by
  refine F.ok sc_are_prices (fun vs H Q E h => ?_) (fun cdv A' outer s H vs Q E hr h => ?_)
  · obtain ⟨a, ns, rfl, _⟩ := h
    rfl
  · obtain ⟨a, ns, rfl, hA, hn, q⟩ := h
    refine ⟨_, (pss_cons (ps_if (pt_cmpR op_ne (pe_callB call_len_seq (by rfl) T.b_len (by decide +kernel) (pa_cons (pv 0) pa_nil)) (pe_cst (by rfl) T.c_HOW_MANY_NUMBERS) (nomark _)) (pss_one (ps_ret pe_bl)) pss_nil)
      (pss_cons (ps_if (pt_not (pt_chain op_le op_le pe_int (pe_ix ix_list (pv 0) (pe_cst (by rfl) T.c_BEAT_AT) (fun _ _ => rfl)) (pe_cst (by rfl) T.c_LONGEST_BEAT))) (pss_one (ps_ret pe_bl)) pss_nil)
      (pss_one (ps_ret (pe_callB (cr_all rfl) (by rfl) T.b_all (by decide +kernel) (pa_cons (pe_lc (own := [("price", 1)]) (g := gName 1) rfl sc_are_prices.nd (pi_list (pe_slice sl_list (pv 0) po_none (po_some (pe_cst (by rfl) T.c_BEAT_AT)))) (blkOk_by (own := [("price", 1)]) (N := N_are_prices) (sc := defScope s_are_prices) (by decide +kernel)) (fun _ _ _ _ _ => (pg_name (i := 1) sc_are_prices.nd rfl (Or.inl rfl))) (fun _ _ _ _ _ => pts_nil) (fun _ _ _ _ _ => (pe_chain op_le op_le pe_int (pv 1) (pe_cst (by rfl) T.c_HIGHEST_PRICE)))) pa_nil)))))), ?_⟩
    have hl : (ns.map V.int).length = 16 := by rw [List.length_map, hn]
    have h15 : atI (ns.map V.int) 15 = some (.int (ns.getD 15 0)) := by
      have hi : 15 < ns.length := by omega
      rw [List.getD_eq_getElem?_getD, List.getElem?_eq_getElem hi]
      exact ix_int (i := 15) (List.getElem?_eq_getElem hi)
    refine a_test (v_neI (v_len (val_var rfl) (SqL.of hA)) val_c) _ (if_b (fun c => ?_) fun _ => ?_)
    · rw [hl] at c
      cases c
    · refine s_qif (a_not (a_test (v_chain val_c (v_ixL (val_var rfl) val_c (SqL.of hA) h15) val_c))) (if_b (fun c => ?_) fun c => ?_)
      · have c' : Cp07.isIn 1 512 (ns.getD 15 0) = false := by simpa using c
        have := q H (.refl H)
        unfold goodPr at this
        rw [c'] at this
        exact this
      · have c' : Cp07.isIn 1 512 (ns.getD 15 0) = true := by simpa using c
        refine ⟨_, rfl, _, rfl, a, _, rfl, SqL.of hA, fun d nd => ?_⟩
        rw [show (15 : Int) = ((15 : Nat) : Int) from rfl, cut_hi, ← List.map_take]
        have sd := same_new (o := HO.lst ((ns.take 15).map V.int)) nd
        refine ⟨d, rfl, ⟨_, SqL.of upd_same⟩, fun D nD => lc_list (K := K) (a := d) (xs := (ns.take 15).map V.int) (fun i H' => Same (upd H d (.lst ((ns.take 15).map V.int))) H' ∧ H' D = some (.lst ((((ns.take 15).take i).map (Cp07.isIn 0 100)).map V.bl)))
          ⟨same_new nD, upd_same⟩ (fun i H' _ ⟨s5, _⟩ => SqL.of (s5 _ _ upd_same)) ?_ ?_⟩
        · rintro i x H1 hx ⟨s1, hD⟩
          obtain ⟨n, hN, rfl⟩ := (Rel.ints (ns.take 15)).2 i x hx
          refine ⟨rfl, ?_⟩
          refine v_chain val_c (val_var rfl) val_c _ ⟨_, hD, ?_, same_mut s1 nD, ?_⟩
          · rw [List.length_map, List.length_map]
            exact small1000 (Nat.le_trans (List.length_take_le' ..) (by rw [List.length_take]; omega))
          · rw [upd_same, take_more hN, List.map_append, List.map_append]
            rfl
        · rintro H1 ⟨s1, hD⟩
          rw [List.length_map, List.take_length] at hD
          refine ⟨D, _, rfl, SqL.of hD, ?_⟩
          have := q H1 (sd.trans s1)
          unfold goodPr at this
          rw [c', Bool.true_and] at this
          rw [List.all_map]
          exact this
/-- meeting_costs -/
def spCosts (A : At) (K : PySem.W.Frag) : Sp := fun vs H Q _ => ∃ (a b p c d : Addr) (va vb : Voice) (q : Table), vs = [.ref a, .ref b, .ref p] ∧ VoiceAt H a (placedL va.1 va.2) ∧ VoiceAt H b (placedL vb.1 vb.2) ∧ va.2.length ≤ 16 ∧ vb.2.length ≤ 16 ∧ PriceAt A K H p c d q ∧
  ∀ (H' : Hp) z, Same H H' → H z = none → LstAt CostAt H' z (costsOf q va vb) → Q (.ref z) H'
theorem ok_meeting_costs (F : Fun K "meeting_costs" "meeting_costs" s_meeting_costs f fd) (T : Txt K mg A) (C_moments_of : Fn P w K mg base "moments_of" 3 ["first", "second"] (spMoments A)) (C_Moment_is_meeting : Mt P w K mg base A.Moment "is_meeting" 1 ["self"] (spIsMeeting A))
    (C_Moment_gap : Mt P w K mg base A.Moment "gap" 1 ["self"] (spGap A)) (C_Prices_gap_price : Mt P w K mg base A.Prices "gap_price" 1 ["self", "time", "gap"] (spGapPrice A K)) (C_are_parallels : Fn P w K mg base "are_parallels" 2 ["ahead", "meeting"] (spParallels A)) :
    FnOk P w K mg base CX0 4 f fd ["first", "second", "prices"] (spCosts A K) := by
  refine F.ok sc_meeting_costs (fun vs H Q E h => ?_) (fun cdv A' outer s H vs Q E hr h => ?_)
  · obtain ⟨a, b, p, c, d, va, vb, q, rfl, _⟩ := h
    rfl
  · obtain ⟨a, b, p, c, d, va, vb, q, rfl, hA, hB, na, nb, hP, k⟩ := h
    refine ⟨_, (pss_cons (ps_set (i := 3) sc_meeting_costs.nd rfl (Or.inl rfl) (pe_lst pa_nil))
      (pss_cons (ps_set (i := 4) sc_meeting_costs.nd rfl (Or.inl rfl) pe_non)
      (pss_cons (ps_for PassesOwn.never rfl (pi_list (pe_fn C_moments_of (hr.mono (by decide)) (by rfl) (pa_cons (pv 0) (pa_cons (pv 1) pa_nil)))) (pg_name (i := 5) sc_meeting_costs.nd rfl (Or.inl rfl)) (pss_cons (ps_if (pt_val (pe_mt0 (pv 5) T.cl_Moment C_Moment_is_meeting (hr.mono (by decide)))) (pss_cons (ps_set (i := 6) sc_meeting_costs.nd rfl (Or.inl rfl) (pe_mt (pv 2) T.cl_Prices C_Prices_gap_price (hr.mono (by decide)) (pa_cons (pe_fld (pv 5) rfl) (pa_cons (pe_mt0 (pv 5) T.cl_Moment C_Moment_gap (hr.mono (by decide))) pa_nil))))
      (pss_cons (ps_if (pt_val (pe_fn C_are_parallels (hr.mono (by decide)) (by rfl) (pa_cons (pv 4) (pa_cons (pv 5) pa_nil)))) (pss_one (ps_aug (i := 6) sc_meeting_costs.nd rfl (Or.inl rfl) (pe_fld (pv 2) rfl) ip_add)) pss_nil)
      (pss_one (ps_expr (pe_bm PySem.F.plainAttrs_list PySem.F.slot_list_append PySem.F.type_list_append mt_append (pv 3) (pa_cons (pe_tup (pa_cons (pe_fld (pv 5) rfl) (pa_cons (pv 6) pa_nil))) pa_nil)))))) pss_nil)
      (pss_one (ps_set (i := 4) sc_meeting_costs.nd rfl (Or.inl rfl) (pv 5)))))
      (pss_one (ps_ret (pv 3)))))), ?_⟩
    have hml := mo_len na nb
    refine ⟨Nat.zero_le _, fun o no => ?_⟩
    have so := same_new (o := HO.lst []) no
    refine ⟨_, rfl, _, rfl, a, b, va, vb, rfl, hA.same so, hB.same so, na, nb, fun H1 g s1 ng hL => ?_⟩
    obtain ⟨vs, h1, hV⟩ := hL
    refine ⟨g, rfl, ⟨_, SqL.of h1⟩, for_list (K := K) (a := g) (xs := vs) (fun i σ H' => ∃ (ah : V) (v5 v6 : Option V), σ = [some (.ref a), some (.ref b), some (.ref p), some (.ref o), some ah, v5, v6] ∧ Same H H' ∧ H' g = some (.lst vs) ∧ Keeps H1 H' ∧ AhAt A H' ah ((moList va vb).take i).getLast? ∧ LstAt CostAt H' o (costGo q none ((moList va vb).take i)))
      ⟨.non, none, none, rfl, so.trans s1, h1, .refl _, rfl, [], s1 _ _ upd_same, Rel.nil⟩ (fun i σ H' _ ⟨_, _, _, _, _, s5, _⟩ => SqL.of s5) ?_ ?_⟩
    · rintro i x σ H2 hx ⟨ah, v5, v6, rfl, s2, hG, k2, hAh, acc, hO, hR⟩
      obtain ⟨m, hm, hM0⟩ := hV.2 i x hx
      have hM : MoAt A H2 x m := hM0.keep k2
      have hil : i < (moList va vb).length := (List.getElem?_eq_some_iff.mp hm).1
      obtain ⟨z, dz, rfl, hz⟩ := id hM
      have nmt : ∀ y : Mo, (moF y).lookup ("is_meeting" : Str) = none := fun y => moF_no _ (by decide +kernel) (by decide +kernel) (by decide +kernel)
      have ngp : ∀ y : Mo, (moF y).lookup ("gap" : Str) = none := fun y => moF_no _ (by decide +kernel) (by decide +kernel) (by decide +kernel)
      have elast : ((moList va vb).take (i + 1)).getLast? = some m := by rw [take_more hm, List.getLast?_concat]
      -- if moment.is_meeting()
      refine ⟨_, rfl, z, dz, _, rfl, hz, nmt m, _, m, rfl, hM, _, rfl, if_b (fun c => ?_) fun c => ?_⟩
      · have c' : isMeet m = true := c
        obtain ⟨t, x, y, rfl⟩ := meet_some c'
        have hP2 := hP.same s2
        obtain ⟨dp, hp⟩ := hP2.obj
        -- cost = prices.gap_price(moment.time, moment.gap())
        refine ⟨_, rfl, p, dp, _, rfl, hp, prF_gap _ _ _, ?_⟩
        refine ⟨_, rfl, z, _, dz, _, _, rfl, hz, T.cl_Moment, T.n_Moment_time, moF_time _, ?_⟩
        refine ⟨_, rfl, z, dz, _, rfl, hz, ngp _, _, t, x, y, rfl, hM, ?_⟩
        refine ⟨p, _, _, q, t, x, y, rfl, hP2, ?_⟩
        -- if are_parallels(ahead, moment): cost += prices.parallels
        have fin : ∀ n : Nat, n = Cp07.price q (t, x, y) + parOf q ((moList va vb).take i).getLast? (t, x, y) → ∀ v5 : V, v5 = .ref z → tSeq (tDrop (tBM K "list" rAppend (tVar 3) (tCons (tTup (tCons (tFld K (tVar 5) "time") (tCons (tVar 6) tNil))) tNil))) (tAsg (tVar 5) (gName 4))
            { nx := fun σ H' => ∃ (ah : V) (v5 v6 : Option V), σ = [some (.ref a), some (.ref b), some (.ref p), some (.ref o), some ah, v5, v6] ∧ Same H H' ∧ H' g = some (.lst vs) ∧ Keeps H1 H' ∧ AhAt A H' ah ((moList va vb).take (i + 1)).getLast? ∧ LstAt CostAt H' o (costGo q none ((moList va vb).take (i + 1))), rt := Q }
            [some (.ref a), some (.ref b), some (.ref p), some (.ref o), some ah, some v5, some (.int (n : Int))] H2 := by
          rintro n hn v5 rfl
          refine ⟨_, rfl, .inl ⟨rfl, _, SqL.of hO⟩, _, rfl, z, _, dz, _, _, rfl, hz, T.cl_Moment, T.n_Moment_time, moF_time _, _, rfl, (by show 2 ≤ sizeLine; decide), fun r nr => ?_⟩
          have nro : o ≠ r := ne_of_none hO nr
          have sr := same_new (o := HO.tup [V.int (t : Int), V.int (n : Int)]) nr
          refine ⟨o, acc, _, rfl, rfl, Eq.trans (upd_ne nro) hO, ?_, ?_⟩
          · rw [hR.1]
            exact small1000 (Nat.le_trans (costGo_len ..) (Nat.le_trans (List.length_take_le' ..) (by omega)))
          · have hO' := Eq.trans (upd_ne (o := HO.tup [V.int (t : Int), V.int (n : Int)]) nro) hO
            have kk : Keeps H2 (upd (upd H2 r (HO.tup [V.int (t : Int), V.int (n : Int)])) o (.lst (acc ++ [.ref r]))) := (Keeps.of sr).trans (.lst hO')
            have ngo : g ≠ o := fun e => by
              rw [e] at ng
              rw [upd_same] at ng
              cases ng
            refine ⟨_, rfl, .ref z, _, _, rfl, same_mut (s2.trans sr) no, ?_, k2.trans kk, ?_, ?_⟩
            · rw [upd_ne ngo]
              exact sr _ _ hG
            · rw [elast]
              exact MoAt.keep kk hM
            · rw [costGo_more hm]
              exact LstAt.push (R := CostAt) (fun k q => q.keep k) hO' (hR.imp fun _ _ q => q.keep (.of sr)) ⟨r, rfl, by
                rw [upd_same, ← hn]⟩
        refine a_val (v_call2 (v := .bl (parA ((moList va vb).take i).getLast? (t, x, y))) (val_var rfl) (val_var rfl) fun Q q => ⟨_, _, _, t, x, y, rfl, hAh, hM, q⟩) _ (if_b (fun e => ?_) fun e => ?_)
        · refine ⟨_, rfl, _, rfl, p, _, dp, _, _, rfl, hp, T.cl_Prices, T.n_Prices_parallels, prF_par _ _ _, _, _, rfl, rfl, ?_⟩
          refine fin (Cp07.price q (t, x, y) + q.parallel) ?_ _ rfl
          rw [parOf_eq, e, if_pos rfl]
        · refine fin (Cp07.price q (t, x, y)) ?_ _ rfl
          rw [parOf_eq, e, if_neg Bool.false_ne_true, Nat.add_zero]
      · have c' : isMeet m = false := c
        refine ⟨_, rfl, .ref z, _, _, rfl, s2, hG, k2, ?_, acc, hO, ?_⟩
        · rw [elast]
          exact hM
        · rw [costGo_more hm]
          have e : meetOf m = none := by
            unfold isMeet at c'
            cases h : meetOf m with
            | none => rfl
            | some z =>
              rw [h] at c'
              cases c'
          rw [e, List.append_nil]
          exact hR
    · rintro σ H2 ⟨ah, v5, v6, rfl, s2, hG, k2, hAh, hL⟩
      rw [hV.1, List.take_length] at hL
      exact ⟨_, rfl, k H2 o s2 no hL⟩
end
end Fa

set_option Elab.async false
set_option linter.all false
set_option maxRecDepth 100000
set_option maxHeartbeats 4000000
namespace Fa
open PySem PySem.Spec PyProof.Rows L2
open Cp07 (Line Voice Table)
theorem sum_toI : ∀ l : List Nat, (l.map toI).sum = toI l.sum
  | [] => rfl
  | x :: l => by
    rw [List.map_cons, List.sum_cons, sum_toI l, List.sum_cons]
    unfold toI
    omega
section
variable {P : Program} {w : World} {K : PySem.W.Frag} {mg : Str → Option Value} {base : Heap} {A : At} {f : Addr} {fd : FuncData}
/-- voices_cost -/
def spVCost (A : At) (K : PySem.W.Frag) : Sp := fun vs H Q _ => ∃ (a b p c d : Addr) (va vb : Voice) (q : Table), vs = [.ref a, .ref b, .ref p] ∧ VoiceAt H a (placedL va.1 va.2) ∧ VoiceAt H b (placedL vb.1 vb.2) ∧ va.2.length ≤ 16 ∧ vb.2.length ≤ 16 ∧ PriceAt A K H p c d q ∧
  ∀ H', Same H H' → Q (.int (Cp07.cost q va vb : Int)) H'
theorem ok_voices_cost (F : Fun K "voices_cost" "voices_cost" s_voices_cost f fd) (T : Txt K mg A) (C_meeting_costs : Fn P w K mg base "meeting_costs" 4 ["first", "second", "prices"] (spCosts A K)) : FnOk P w K mg base CX0 5 f fd ["first", "second", "prices"] (spVCost A K) := by
  refine F.ok sc_voices_cost (fun vs H Q E h => ?_) (fun cdv A' outer s H vs Q E hr h => ?_)
  · obtain ⟨a, b, p, c, d, va, vb, q, rfl, _⟩ := h
    rfl
  · obtain ⟨a, b, p, c, d, va, vb, q, rfl, hA, hB, na, nb, hP, k⟩ := h
    refine ⟨_, (pss_one (ps_ret (pe_callB (cr_sum rfl) (by rfl) T.b_sum (by decide +kernel) (pa_cons (pe_lc (own := [("time", 3), ("cost", 4)]) (g := gTup K 2 (gCons (gName 3) (gCons (gName 4) gNil))) rfl sc_voices_cost.nd (pi_list (pe_fn C_meeting_costs (hr.mono (by decide)) (by rfl) (pa_cons (pv 0) (pa_cons (pv 1) (pa_cons (pv 2) pa_nil))))) (blkOk_by (own := [("time", 3), ("cost", 4)]) (N := N_voices_cost) (sc := defScope s_voices_cost) (by decide +kernel)) (fun _ _ _ _ _ => (pg_tup rfl (pgs_cons (pg_name (i := 3) sc_voices_cost.nd rfl (Or.inl rfl)) (pgs_cons (pg_name (i := 4) sc_voices_cost.nd rfl (Or.inl rfl)) pgs_nil)))) (fun _ _ _ _ _ => pts_nil) (fun _ _ _ _ _ => (pv 4))) pa_nil)))), ?_⟩
    refine ⟨_, rfl, _, rfl, _, rfl, a, b, p, c, d, va, vb, q, rfl, hA, hB, na, nb, hP, fun H1 g s1 ng hL => ?_⟩
    obtain ⟨vs, h1, hV⟩ := hL
    have hlen : (costsOf q va vb).length ≤ 32 := Nat.le_trans (costGo_len ..) (mo_len na nb)
    refine ⟨g, rfl, ⟨_, SqL.of h1⟩, fun D nD => lc_list (K := K) (a := g) (xs := vs) (fun i H' => Same H1 H' ∧ H' D = some (.lst (((((costsOf q va vb).take i).map fun x => x.2).map toI).map V.int)))
      ⟨same_new nD, upd_same⟩ (fun i H' _ ⟨s5, _⟩ => SqL.of (s5 _ _ h1)) ?_ ?_⟩
    · rintro i x H2 hx ⟨s2, hD⟩
      obtain ⟨e, he, z, rfl, hz⟩ := hV.2 i x hx
      refine ⟨z, _, rfl, SqT.of (s2 _ _ hz), rfl, _, _, rfl, _, _, rfl, rfl, rfl, ?_⟩
      refine ⟨_, rfl, _, hD, ?_, same_mut s2 nD, ?_⟩
      · rw [List.length_map, List.length_map, List.length_map]
        exact small1000 (Nat.le_trans (List.length_take_le' ..) (by omega))
      · rw [upd_same, take_more he, List.map_append, List.map_append, List.map_append]
        rfl
    · rintro H2 ⟨s2, hD⟩
      rw [hV.1, List.take_length] at hD
      refine ⟨D, _, rfl, SqL.of hD, ?_⟩
      rw [sum_toI, ← cost_eq]
      exact k H2 (s1.trans s2)
/-- times_above -/
def spAbove (A : At) : Sp := fun vs H Q _ => ∃ (a b : Addr) (va vb : Voice), vs = [.ref a, .ref b] ∧ VoiceAt H a (placedL va.1 va.2) ∧ VoiceAt H b (placedL vb.1 vb.2) ∧ va.2.length ≤ 16 ∧ vb.2.length ≤ 16 ∧
  ∀ (H' : Hp) p, Same H H' → H p = none → (aboveL va vb).length ≤ 32 → H' p = some (.lst (((aboveL va vb).map toI).map V.int)) → Q (.ref p) H'
theorem ok_times_above (F : Fun K "times_above" "times_above" s_times_above f fd) (T : Txt K mg A) (C_meetings_of : Fn P w K mg base "meetings_of" 4 ["first", "second"] (spMeetings A)) : FnOk P w K mg base CX0 5 f fd ["first", "second"] (spAbove A) := by
  refine F.ok sc_times_above (fun vs H Q E h => ?_) (fun cdv A' outer s H vs Q E hr h => ?_)
  · obtain ⟨a, b, va, vb, rfl, _⟩ := h
    rfl
  · obtain ⟨a, b, va, vb, rfl, hA, hB, na, nb, k⟩ := h
    refine ⟨_, (pss_one (ps_ret (pe_lc (own := [("meeting", 2)]) (g := gName 2) (te := tFld K (tVar 2) "time") (tt := tTest (tOp (rI0 fun i j => V.bl (decide (j < i))) (tFld K (tVar 2) "first") (tFld K (tVar 2) "second"))) rfl sc_times_above.nd (pi_list (pe_fn C_meetings_of (hr.mono (by decide)) (by rfl) (pa_cons (pv 0) (pa_cons (pv 1) pa_nil)))) (blkOk_by (own := [("meeting", 2)]) (N := N_times_above) (sc := defScope s_times_above) (by decide +kernel)) (fun _ _ _ _ _ => (pg_name (i := 2) sc_times_above.nd rfl (Or.inl rfl))) (fun _ _ _ _ _ => (pts_one (pt_cmpR op_gt (pe_fld (pv 2) rfl) (pe_fld (pv 2) rfl) (nomark _)))) (fun _ _ _ _ _ => (pe_fld (pv 2) rfl))))), ?_⟩
    refine ⟨_, rfl, _, rfl, a, b, va, vb, rfl, hA, hB, na, nb, fun H1 g s1 ng hL => ?_⟩
    obtain ⟨vs, h1, hV⟩ := hL
    have hlen : ((moList va vb).filter isMeet).length ≤ 32 := Nat.le_trans (List.length_filter_le ..) (mo_len na nb)
    refine ⟨g, rfl, ⟨_, SqL.of h1⟩, fun D nD => lc_list (K := K) (a := g) (xs := vs) (fun i H' => Same H1 H' ∧ H' D = some (.lst ((((((moList va vb).filter isMeet).take i).filter upM).map fun m => toI m.1).map V.int)))
      ⟨same_new nD, upd_same⟩ (fun i H' _ ⟨s5, _⟩ => SqL.of (s5 _ _ h1)) ?_ ?_⟩
    · rintro i x H2 hx ⟨s2, hD⟩
      obtain ⟨m, hm, hM0⟩ := hV.2 i x hx
      obtain ⟨z, dz, rfl, hz⟩ := hM0.keep (.of s2)
      have hmm : isMeet m = true := by
        have := List.mem_of_getElem? hm
        exact (List.mem_filter.mp this).2
      obtain ⟨t, u, v, rfl⟩ := meet_some hmm
      refine ⟨rfl, ?_⟩
      refine a_test (v_gt (i := u) (j := v) (val_fld (val_var rfl) hz T.cl_Moment T.n_Moment_first (moF_first _)) (val_fld (val_var rfl) hz T.cl_Moment T.n_Moment_second (moF_second _))) _ (if_b (fun c => ?_) fun c => ?_)
      · have e : upM (t, some u, some v) = true := c
        refine ⟨_, rfl, z, _, dz, _, _, rfl, hz, T.cl_Moment, T.n_Moment_time, moF_time _, _, hD, ?_, same_mut s2 nD, ?_⟩
        · rw [List.length_map, List.length_map]
          exact small1000 (Nat.le_trans (List.length_filter_le ..) (Nat.le_trans (List.length_take_le' ..) (by omega)))
        · rw [upd_same, take_more hm, List.filter_append, List.filter_cons, if_pos e, List.filter_nil, List.map_append, List.map_append]
          rfl
      · have e : upM (t, some u, some v) = false := c
        refine ⟨s2, ?_⟩
        rw [take_more hm, List.filter_append, List.filter_cons, if_neg (by rw [e]; exact Bool.false_ne_true), List.filter_nil, List.append_nil]
        exact hD
    · rintro H2 ⟨s2, hD⟩
      rw [hV.1, List.take_length] at hD
      have e : (((moList va vb).filter isMeet).filter upM).map (fun m => toI m.1) = (aboveL va vb).map toI := by
        unfold aboveL
        rw [meetings_eq, ← above_eq, List.map_map]
        rfl
      rw [e] at hD
      refine k H2 D (s1.trans s2) (s1.free nD) ?_ hD
      have := congrArg List.length e
      rw [List.length_map, List.length_map] at this
      rw [← this]
      exact Nat.le_trans (List.length_filter_le ..) hlen
end
end Fa

set_option Elab.async false
set_option linter.all false
set_option maxRecDepth 100000
set_option maxHeartbeats 4000000
namespace Fa
open PySem PySem.Spec PyProof.Rows L2
open Cp07 (Line Voice Table)
open Cp08 (Desk)
abbrev Ent := Cp08.Entry
/-! ### fields by their keys -/
theorem lk_none {k : Str} : ∀ {fs : List (Str × V)} {ks : List Str}, fs.map (·.1) = ks → (ks.all fun g => !(k == g)) = true → fs.lookup k = none
  | [], _, _, _ => rfl
  | (g, v) :: r, ks, e, h => by
    subst e
    rw [List.map_cons, List.all_cons, Bool.and_eq_true] at h
    have h1 : (k == g) = false := by simpa using h.1
    rw [lk_past h1]
    exact lk_none rfl h.2
theorem lk_at {k : Str} {v : V} : ∀ (i : Nat) {fs : List (Str × V)} {ks : List Str}, fs[i]? = some (k, v) → (fs.take i).map (·.1) = ks → (ks.all fun g => !(k == g)) = true → fs.lookup k = some v
  | _, [], _, h, _, _ => by simp at h
  | 0, (g, u) :: r, _, h, _, _ => by
    have e : (g, u) = (k, v) := Option.some.inj h
    cases e
    exact lk_here
  | i + 1, (g, u) :: r, ks, h, e, hk => by
    subst e
    rw [List.take_succ_cons, List.map_cons, List.all_cons, Bool.and_eq_true] at hk
    have h1 : (k == g) = false := by simpa using hk.1
    rw [lk_past h1]
    exact lk_at i (by simpa using h) rfl hk.2
theorem put_new {k : Str} {v : V} : ∀ {fs : List (Str × V)} {ks : List Str}, fs.map (·.1) = ks → (ks.all fun g => !(decide (g = k))) = true → putF k v fs = fs ++ [(k, v)]
  | [], _, _, _ => rfl
  | (g, u) :: r, ks, e, h => by
    subst e
    rw [List.map_cons, List.all_cons, Bool.and_eq_true] at h
    have h1 : ¬ g = k := by simpa using h.1
    rw [put_past h1, put_new rfl h.2]
    rfl
theorem put_at {k : Str} {v u : V} : ∀ (i : Nat) {fs : List (Str × V)} {ks : List Str}, fs[i]? = some (k, u) → (fs.take i).map (·.1) = ks → (ks.all fun g => !(decide (g = k))) = true → putF k v fs = fs.take i ++ (k, v) :: fs.drop (i + 1)
  | _, [], _, h, _, _ => by simp at h
  | 0, (g, w) :: r, _, h, _, _ => by
    have e : (g, w) = (k, u) := Option.some.inj h
    cases e
    exact put_here
  | i + 1, (g, w) :: r, ks, h, e, hk => by
    subst e
    rw [List.take_succ_cons, List.map_cons, List.all_cons, Bool.and_eq_true] at hk
    have h1 : ¬ g = k := by simpa using hk.1
    rw [put_past h1, put_at i (by simpa using h) rfl hk.2]
    rfl
/-! ### all but one object -/
def Xc (p : Addr) (H H' : Hp) : Prop := ∀ b o, H b = some o → b ≠ p → H' b = some o
theorem LineAt.xc {H H' : Hp} {p C dx a : Addr} {fs : List (Str × V)} {l : Line} (hp : H p = some (.ins C dx fs)) (k : Xc p H H') (h : LineAt H a l) : LineAt H' a l := by
  obtain ⟨vs, h1, h2⟩ := h
  refine ⟨vs, k a _ h1 (fun e => by rw [e, hp] at h1; cases h1), h2.imp fun v x q => ?_⟩
  obtain ⟨c, e1, e2⟩ := q
  exact ⟨c, e1, k c _ e2 (fun e => by rw [e, hp] at e2; cases e2)⟩
theorem VoiceAt.xc {H H' : Hp} {p C dx a : Addr} {fs : List (Str × V)} {l : List Placed} (hp : H p = some (.ins C dx fs)) (k : Xc p H H') (h : VoiceAt H a l) : VoiceAt H' a l := by
  obtain ⟨vs, h1, h2⟩ := h
  refine ⟨vs, k a _ h1 (fun e => by rw [e, hp] at h1; cases h1), h2.imp fun v x q => ?_⟩
  obtain ⟨c, e1, e2⟩ := q
  exact ⟨c, e1, k c _ e2 (fun e => by rw [e, hp] at e2; cases e2)⟩
/-! ### entries -/
def enF (e : Ent) (n : Nat) (part : Addr) : List (Str × V) := [("kind", .int (e.what : Int)), ("time", .int (e.at_ : Int)), ("octaves", .int e.oct), ("voice", .int (e.voice : Int)), ("part", .ref part), ("end", .int ((e.at_ + n : Nat) : Int))]
theorem enF_kind (e : Ent) (n : Nat) (a : Addr) : (enF e n a).lookup ("kind" : Str) = some (.int (e.what : Int)) := lk_at 0 (ks := []) rfl rfl (by decide +kernel)
theorem enF_time (e : Ent) (n : Nat) (a : Addr) : (enF e n a).lookup ("time" : Str) = some (.int (e.at_ : Int)) := lk_at 1 (ks := ["kind"]) rfl rfl (by decide +kernel)
theorem enF_oct (e : Ent) (n : Nat) (a : Addr) : (enF e n a).lookup ("octaves" : Str) = some (.int e.oct) := lk_at 2 (ks := ["kind", "time"]) rfl rfl (by decide +kernel)
theorem enF_voice (e : Ent) (n : Nat) (a : Addr) : (enF e n a).lookup ("voice" : Str) = some (.int (e.voice : Int)) := lk_at 3 (ks := ["kind", "time", "octaves"]) rfl rfl (by decide +kernel)
theorem enF_part (e : Ent) (n : Nat) (a : Addr) : (enF e n a).lookup ("part" : Str) = some (.ref a) := lk_at 4 (ks := ["kind", "time", "octaves", "voice"]) rfl rfl (by decide +kernel)
theorem enF_end (e : Ent) (n : Nat) (a : Addr) : (enF e n a).lookup ("end" : Str) = some (.int ((e.at_ + n : Nat) : Int)) := lk_at 5 (ks := ["kind", "time", "octaves", "voice", "part"]) rfl rfl (by decide +kernel)
theorem enF_told (e : Ent) (n : Nat) (a : Addr) : (enF e n a).lookup ("numbers_told" : Str) = none := lk_none (ks := ["kind", "time", "octaves", "voice", "part", "end"]) rfl (by decide +kernel)
/-- an entry: its object, and its part, which is none of some lists -/
def EnAt (A : At) (N : Addr → Prop) (s : Desk) (H : Hp) (v : V) (e : Ent) : Prop := ∃ p dx part, v = .ref p ∧ H p = some (.ins A.Entry dx (enF e (Cp07.length (Cp08.lineOf s e.what)) part)) ∧ VoiceAt H part (placedL (Cp08.voiceOf s e).1 (Cp08.voiceOf s e).2) ∧ ¬ N part
theorem EnAt.same {A : At} {N : Addr → Prop} {s : Desk} {H H' : Hp} {v : V} {e : Ent} (k : Same H H') (h : EnAt A N s H v e) : EnAt A N s H' v e := by
  obtain ⟨p, dx, part, h1, h2, h3, h4⟩ := h
  exact ⟨p, dx, part, h1, k _ _ h2, h3.same k, h4⟩
abbrev EnsAt (A : At) (N : Addr → Prop) (s : Desk) : Hp → Addr → List Ent → Prop := LstAt (EnAt A N s)
theorem EnsAt.same {A : At} {N : Addr → Prop} {s : Desk} {H H' : Hp} {a : Addr} {l : List Ent} (k : Same H H') (h : EnsAt A N s H a l) : EnsAt A N s H' a l := by
  obtain ⟨vs, h1, h2⟩ := h
  exact ⟨vs, k _ _ h1, h2.imp fun _ _ q => q.same k⟩
section
variable {P : Program} {w : World} {K : PySem.W.Frag} {mg : Str → Option Value} {base : Heap} {A : At} {f : Addr} {fd : FuncData}
/-- Entry.__init__ -/
def spEnInit (A : At) : Sp := fun vs H Q _ => ∃ (p dx a : Addr) (e : Ent) (l : Line), vs = [.ref p, .int (e.what : Int), .int (e.at_ : Int), .int e.oct, .int (e.voice : Int), .ref a] ∧ H p = some (.ins A.Entry dx []) ∧ LineAt H a l ∧ l.length ≤ 16 ∧ -4 ≤ e.oct ∧ e.oct ≤ 4 ∧
  ∀ (H' : Hp) part, H part = none → H' p = some (.ins A.Entry dx (enF e (Cp07.length l) part)) → VoiceAt H' part (placedL e.at_ (l.map (raiseE (7 * e.oct)))) → Xc p H H' → Q .non H'
theorem ok_Entry_init (F : Fun K "__init__" "Entry.__init__" s_Entry_init f fd) (T : Txt K mg A) (C_placed : Fn P w K mg base "placed" 1 ["events", "start"] spPlaced) (C_raised : Fn P w K mg base "raised" 2 ["events", "steps"] spRaised)
    (C_line_length : Fn P w K mg base "line_length" 1 ["events"] spLength) : FnOk P w K mg base CX0 3 f fd ["self", "kind", "time", "octaves", "voice", "events"] (spEnInit A) := by
  refine F.ok sc_Entry_init (fun vs H Q E h => ?_) (fun cdv A' outer s H vs Q E hr h => ?_)
  · obtain ⟨p, dx, a, e, l, rfl, _⟩ := h
    rfl
  · obtain ⟨p, dx, a, e, l, rfl, hp, hA, hn, o1, o2, q⟩ := h
    refine ⟨_, (pss_cons (ps_fld (pv 0) (pv 1) rfl)
      (pss_cons (ps_fld (pv 0) (pv 2) rfl)
      (pss_cons (ps_fld (pv 0) (pv 3) rfl)
      (pss_cons (ps_fld (pv 0) (pv 4) rfl)
      (pss_cons (ps_fld (pv 0) (pe_fn C_placed (hr.mono (by decide)) (by rfl) (pa_cons (pe_fn C_raised (hr.mono (by decide)) (by rfl) (pa_cons (pv 5) (pa_cons (pe_op op_mul (pv 3) (pe_cst (by rfl) T.c_STEPS_OF_AN_OCTAVE)) pa_nil))) (pa_cons (pv 2) pa_nil))) rfl)
      (pss_one (ps_fld (pv 0) (pe_op op_add (pv 2) (pe_fn C_line_length (hr.mono (by decide)) (by rfl) (pa_cons (pv 5) pa_nil))) rfl))))))), ?_⟩
    refine ⟨_, rfl, _, rfl, p, A.Entry, dx, [], rfl, hp, T.cl_Entry, T.n_Entry_kind, (by show 0 < 1000; decide), ?_⟩
    rw [put_new (fs := []) (ks := []) rfl rfl]
    refine ⟨_, rfl, _, rfl, p, A.Entry, dx, _, rfl, upd_same, T.cl_Entry, T.n_Entry_time, (by show 1 < 1000; decide), ?_⟩
    rw [put_new (ks := ["kind"]) rfl (by decide +kernel)]
    refine ⟨_, rfl, _, rfl, p, A.Entry, dx, _, rfl, upd_same, T.cl_Entry, T.n_Entry_octaves, (by show 2 < 1000; decide), ?_⟩
    rw [put_new (ks := ["kind", "time"]) rfl (by decide +kernel)]
    refine ⟨_, rfl, _, rfl, p, A.Entry, dx, _, rfl, upd_same, T.cl_Entry, T.n_Entry_voice, (by show 3 < 1000; decide), ?_⟩
    rw [put_new (ks := ["kind", "time", "octaves"]) rfl (by decide +kernel)]
    generalize hH4 : upd (upd (upd (upd H p _) p _) p _) p _ = H4
    have hp4 : H4 p = some (.ins A.Entry dx [("kind", .int (e.what : Int)), ("time", .int (e.at_ : Int)), ("octaves", .int e.oct), ("voice", .int (e.voice : Int))]) := by
      rw [← hH4, upd_same]
      rfl
    have x4 : Xc p H H4 := fun b o hb ne => by
      rw [← hH4, upd_ne ne, upd_ne ne, upd_ne ne, upd_ne ne]
      exact hb
    have n4 : ∀ b, H4 b = none → H b = none := fun b hb => by
      by_cases ne : b = p
      · rw [ne, hp4] at hb
        cases hb
      · rw [← hH4, upd_ne ne, upd_ne ne, upd_ne ne, upd_ne ne] at hb
        exact hb
    have hA4 : LineAt H4 a l := hA.xc hp x4
    -- self.part = placed(raised(events, octaves * 7), time)
    refine ⟨_, rfl, _, rfl, _, _, rfl, rfl, .inl ⟨by omega, by omega⟩, ?_⟩
    refine ⟨a, l, e.oct * 7, rfl, hA4, hn, fun H5 b s5 nb hB => ?_⟩
    refine ⟨_, rfl, ?_⟩
    refine ⟨b, _, e.at_, rfl, hB, by rw [List.length_map]; exact hn, fun H6 c s6 nc hC => ?_⟩
    have s46 := s5.trans s6
    have hp6 := s46 _ _ hp4
    refine ⟨_, rfl, p, A.Entry, dx, _, rfl, hp6, T.cl_Entry, T.n_Entry_part, (by show 4 < 1000; decide), ?_⟩
    rw [put_new (ks := ["kind", "time", "octaves", "voice"]) rfl (by decide +kernel)]
    generalize hH7 : upd H6 p _ = H7
    have hp7 : H7 p = some (.ins A.Entry dx [("kind", .int (e.what : Int)), ("time", .int (e.at_ : Int)), ("octaves", .int e.oct), ("voice", .int (e.voice : Int)), ("part", .ref c)]) := by
      rw [← hH7, upd_same]
      rfl
    have x7 : Xc p H6 H7 := fun b o hb ne => by
      rw [← hH7, upd_ne ne]
      exact hb
    have hA7 : LineAt H7 a l := (hA4.same s46).xc hp6 x7
    -- self.end = time + line_length(events)
    refine ⟨_, rfl, _, rfl, a, l, rfl, hA7, hn, fun H8 s8 => ⟨_, _, rfl, rfl, ?_⟩⟩
    have hp8 := s8 _ _ hp7
    refine ⟨_, rfl, p, A.Entry, dx, _, rfl, hp8, T.cl_Entry, T.n_Entry_end, (by show 5 < 1000; decide), ?_⟩
    rw [put_new (ks := ["kind", "time", "octaves", "voice", "part"]) rfl (by decide +kernel)]
    generalize hH9 : upd H8 p _ = H9
    have x9 : Xc p H8 H9 := fun b o hb ne => by
      rw [← hH9, upd_ne ne]
      exact hb
    refine q _ c (n4 c (s5.free nc)) ?_ ?_ ?_
    · rw [← hH9, upd_same]
      rfl
    · have hC' : VoiceAt H6 c (placedL e.at_ (l.map (raiseE (7 * e.oct)))) := by
        rw [Int.mul_comm]
        exact hC
      exact ((hC'.xc hp6 x7).same s8).xc hp8 x9
    · exact fun b o hb ne => x9 _ _ (s8 _ _ (x7 _ _ (s46 _ _ (x4 _ _ hb ne)) ne)) ne
/-- Entry.numbers_told -/
def toldE (e : Ent) : List Int := [(e.what : Int), (e.at_ : Int), e.oct, (e.voice : Int)]
def spEnTold (A : At) : Sp := fun vs H Q _ => ∃ (v : V) (N : Addr → Prop) (s : Desk) (e : Ent), vs = [v] ∧ EnAt A N s H v e ∧ ∀ p, H p = none → Q (.ref p) (upd H p (.lst ((toldE e).map V.int)))
theorem ok_numbers_told (F : Fun K "numbers_told" "Entry.numbers_told" s_Entry_numbers_told f fd) (T : Txt K mg A) : FnOk P w K mg base CX0 1 f fd ["self"] (spEnTold A) := by
  refine F.ok sc_Entry_numbers_told (fun vs H Q E h => ?_) (fun cdv A' outer s H vs Q E hr h => ?_)
  · obtain ⟨v, N, s, e, rfl, _⟩ := h
    rfl
  · obtain ⟨v, N, s, e, rfl, ⟨p, dx, part, rfl, hp, hV, _⟩, q⟩ := h
    refine ⟨_, (pss_one (ps_ret (pe_lst (pa_cons (pe_fld (pv 0) rfl) (pa_cons (pe_fld (pv 0) rfl) (pa_cons (pe_fld (pv 0) rfl) (pa_cons (pe_fld (pv 0) rfl) pa_nil))))))), ?_⟩
    refine ⟨_, rfl, p, A.Entry, dx, _, _, rfl, hp, T.cl_Entry, T.n_Entry_kind, enF_kind .., ?_⟩
    refine ⟨_, rfl, p, A.Entry, dx, _, _, rfl, hp, T.cl_Entry, T.n_Entry_time, enF_time .., ?_⟩
    refine ⟨_, rfl, p, A.Entry, dx, _, _, rfl, hp, T.cl_Entry, T.n_Entry_octaves, enF_oct .., ?_⟩
    refine ⟨_, rfl, p, A.Entry, dx, _, _, rfl, hp, T.cl_Entry, T.n_Entry_voice, enF_voice .., ?_⟩
    exact ⟨(by show 4 ≤ sizeLine; decide), fun r nr => q r nr⟩
/-- is_place -/
def placeB (t o v : Int) : Bool := Cp07.isIn 0 8192 t && (Cp07.isIn (-4) 4 o && Cp07.isIn 0 3 v)
def spPlace : Sp := fun vs H Q _ => ∃ t o v : Int, vs = [.int t, .int o, .int v] ∧ Q (.bl (placeB t o v)) H
theorem ok_is_place (F : Fun K "is_place" "is_place" s_is_place f fd) (T : Txt K mg A) : FnOk P w K mg base CX0 1 f fd ["time", "octaves", "voice"] spPlace := by
  refine F.ok sc_is_place (fun vs H Q E h => ?_) (fun cdv A' outer s H vs Q E hr h => ?_)
  · obtain ⟨t, o, v, rfl, _⟩ := h
    rfl
  · obtain ⟨t, o, v, rfl, q⟩ := h
    refine ⟨_, (pss_cons (ps_if (pt_not (pt_chain op_le op_le pe_int (pv 0) (pe_cst (by rfl) T.c_LAST_TIME))) (pss_one (ps_ret pe_bl)) pss_nil)
      (pss_one (ps_ret (pe_and (pe_chain op_le op_le (pe_un un_neg (pe_cst (by rfl) T.c_MOST_OCTAVES)) (pv 1) (pe_cst (by rfl) T.c_MOST_OCTAVES)) (pe_one (pe_chain op_le op_le pe_int (pv 2) (pe_cst (by rfl) T.c_LAST_VOICE))))))), ?_⟩
    refine s_qif (a_not (a_test (v_chain val_c (val_var rfl) val_c))) (if_b (fun c => ?_) fun c => ?_)
    · have c' : Cp07.isIn 0 8192 t = false := by simpa using c
      unfold placeB at q
      rw [c'] at q
      exact q
    · have c' : Cp07.isIn 0 8192 t = true := by simpa using c
      unfold placeB at q
      rw [c', Bool.true_and] at q
      dsimp only [tNext, tRet]
      refine v_andV (a := Cp07.isIn (-4) 4 o) (b := Cp07.isIn 0 3 v) ?_ ?_ _ q
      · exact v_chain (v_neg val_c) (val_var rfl) val_c
      · exact fun _ => v_chain val_c (val_var rfl) val_c
/-- overlap -/
def spOverlap (A : At) : Sp := fun vs H Q _ => ∃ (v u : V) (N N' : Addr → Prop) (s : Desk) (e g : Ent), vs = [v, u] ∧ EnAt A N s H v e ∧ EnAt A N' s H u g ∧ Q (.bl (Cp08.clash s e g)) H
theorem ok_overlap (F : Fun K "overlap" "overlap" s_overlap f fd) (T : Txt K mg A) : FnOk P w K mg base CX0 1 f fd ["first", "second"] (spOverlap A) := by
  refine F.ok sc_overlap (fun vs H Q E h => ?_) (fun cdv A' outer s H vs Q E hr h => ?_)
  · obtain ⟨v, u, N, N', s, e, g, rfl, _⟩ := h
    rfl
  · obtain ⟨v, u, N, N', s, e, g, rfl, ⟨p, dx, part, rfl, hp, _, _⟩, ⟨p', dx', part', rfl, hp', _, _⟩, q⟩ := h
    refine ⟨_, (pss_cons (ps_if (pt_cmpR op_ne (pe_fld (pv 0) rfl) (pe_fld (pv 1) rfl) (nomark _)) (pss_one (ps_ret pe_bl)) pss_nil)
      (pss_one (ps_ret (pe_and (pe_cmpR op_lt (pe_fld (pv 0) rfl) (pe_fld (pv 1) rfl) (nomark _)) (pe_one (pe_cmpR op_lt (pe_fld (pv 1) rfl) (pe_fld (pv 0) rfl) (nomark _))))))), ?_⟩
    refine a_test (v_neI (val_fld (val_var rfl) hp T.cl_Entry T.n_Entry_voice (enF_voice ..)) (val_fld (val_var rfl) hp' T.cl_Entry T.n_Entry_voice (enF_voice ..))) _ (if_b (fun c => ?_) fun c => ?_)
    · have c' : (e.voice == g.voice) = false := by
        simp at c
        simp
        omega
      unfold Cp08.clash at q
      rw [c'] at q
      exact q
    · have c' : (e.voice == g.voice) = true := by
        simp at c
        simp
        omega
      unfold Cp08.clash at q
      rw [c', Bool.true_and] at q
      refine v_is (v_andV (v_lt (val_fld (val_var rfl) hp T.cl_Entry T.n_Entry_time (enF_time ..)) (val_fld (val_var rfl) hp' T.cl_Entry T.n_Entry_end (enF_end ..))) (fun _ => v_lt (val_fld (val_var rfl) hp' T.cl_Entry T.n_Entry_time (enF_time ..)) (val_fld (val_var rfl) hp T.cl_Entry T.n_Entry_end (enF_end ..)))) ?_ _ q
      congr 1
      rw [Bool.eq_iff_iff]
      simp only [Bool.and_eq_true, decide_eq_true_eq]
      omega
end
end Fa

set_option Elab.async false
set_option linter.all false
set_option maxRecDepth 100000
set_option maxHeartbeats 4000000
namespace Fa
open PySem PySem.Spec PyProof.Rows L2
open Cp07 (Line Voice Table)
open Cp08 (Desk)
section
variable {P : Program} {w : World} {K : PySem.W.Frag} {mg : Str → Option Value} {base : Heap} {A : At} {f : Addr} {fd : FuncData}
/-- all lines of a desk are short -/
def Short (s : Desk) : Prop := ∀ k, (Cp08.lineOf s k).length ≤ 16
theorem voice_len {s : Desk} (h : Short s) (e : Ent) : (Cp08.voiceOf s e).2.length ≤ 16 := by
  show (List.map _ (Cp08.lineOf s e.what)).length ≤ 16
  rw [List.length_map]
  exact h _
/-- cost_against -/
def spAgainst (A : At) (K : PySem.W.Frag) : Sp := fun vs H Q _ => ∃ (v : V) (a p c d : Addr) (N N' : Addr → Prop) (s : Desk) (l : List Ent) (e : Ent), vs = [v, .ref a, .ref p] ∧ EnAt A N s H v e ∧ EnsAt A N' s H a l ∧ PriceAt A K H p c d s.table ∧ Short s ∧ l.length ≤ 8 ∧
  ∀ H', Same H H' → Q (.int (against s l e : Int)) H'
theorem ok_cost_against (F : Fun K "cost_against" "cost_against" s_cost_against f fd) (T : Txt K mg A) (C_voices_cost : Fn P w K mg base "voices_cost" 5 ["first", "second", "prices"] (spVCost A K)) :
    FnOk P w K mg base CX0 6 f fd ["entry", "others", "prices"] (spAgainst A K) := by
  refine F.ok sc_cost_against (fun vs H Q E h => ?_) (fun cdv A' outer s H vs Q E hr h => ?_)
  · obtain ⟨v, a, p, c, d, N, N', s, l, e, rfl, _⟩ := h
    rfl
  · obtain ⟨v, a, p, c, d, N, N', s, l, e, rfl, hE, ⟨vs, h1, hV⟩, hP, hsh, h8, k⟩ := h
    refine ⟨_, (pss_one (ps_ret (pe_callB (cr_sum rfl) (by rfl) T.b_sum (by decide +kernel) (pa_cons (pe_lc (own := [("other", 3)]) (g := gName 3) (te := tCall (spVCost A K) [] E0 (tCons (tFld K (tVar 0) "part") (tCons (tFld K (tVar 3) "part") (tCons (tVar 2) tNil)))) (tt := tTest (tOp rNe (tFld K (tVar 3) "voice") (tFld K (tVar 0) "voice"))) rfl sc_cost_against.nd (pi_list (pv 1)) (blkOk_by (own := [("other", 3)]) (N := N_cost_against) (sc := defScope s_cost_against) (by decide +kernel)) (fun _ _ _ _ _ => (pg_name (i := 3) sc_cost_against.nd rfl (Or.inl rfl))) (fun _ _ _ _ _ => (pts_one (pt_cmpR op_ne (pe_fld (pv 3) rfl) (pe_fld (pv 0) rfl) (nomark _)))) (fun _ _ _ _ _ => (pe_fn C_voices_cost (hr.mono (by decide)) (by rfl) (pa_cons (pe_fld (pv 0) rfl) (pa_cons (pe_fld (pv 3) rfl) (pa_cons (pv 2) pa_nil)))))) pa_nil)))), ?_⟩
    obtain ⟨x, dx, px, rfl, hx, hVx, _⟩ := id hE
    refine ⟨_, rfl, a, rfl, ⟨_, SqL.of h1⟩, fun D nD => lc_list (K := K) (a := a) (xs := vs) (fun i H' => Same H H' ∧ ∃ ms : List Nat, ms.length ≤ i ∧ ms.sum = against s (l.take i) e ∧ H' D = some (.lst ((ms.map toI).map V.int)))
      ⟨same_new nD, [], Nat.le_refl _, rfl, upd_same⟩ (fun i H' _ ⟨s5, _⟩ => SqL.of (s5 _ _ h1)) ?_ ?_⟩
    · rintro i y H1 hy ⟨s1, ms, hml, hms, hD⟩
      obtain ⟨g, hg, hG0⟩ := hV.2 i y hy
      obtain ⟨z, dz, pz, rfl, hz, hVz, _⟩ := hG0.same s1
      have hi : i < vs.length := (List.getElem?_eq_some_iff.mp hy).1
      refine ⟨rfl, ?_⟩
      refine a_test (v_neI (val_fld (val_var rfl) hz T.cl_Entry T.n_Entry_voice (enF_voice ..)) (val_fld (val_var rfl) (s1 _ _ hx) T.cl_Entry T.n_Entry_voice (enF_voice ..))) _ (if_b (fun c => ?_) fun c => ?_)
      · have c' : (g.voice != e.voice) = true := by
          simp at c
          simp
          omega
        refine ⟨_, rfl, x, A.Entry, dx, _, _, rfl, s1 _ _ hx, T.cl_Entry, T.n_Entry_part, enF_part .., ?_⟩
        refine ⟨_, rfl, z, A.Entry, dz, _, _, rfl, hz, T.cl_Entry, T.n_Entry_part, enF_part .., ?_⟩
        refine ⟨_, rfl, px, pz, p, _, _, Cp08.voiceOf s e, Cp08.voiceOf s g, s.table, rfl, hVx.same s1, hVz, voice_len hsh e, voice_len hsh g, hP.same s1, fun H2 s2 => ?_⟩
        refine ⟨_, s2 _ _ hD, ?_, same_mut (s1.trans s2) nD, ms ++ [Cp07.cost s.table (Cp08.voiceOf s e) (Cp08.voiceOf s g)], ?_, ?_, ?_⟩
        · rw [List.length_map, List.length_map]
          exact small1000 (by rw [hV.1] at hi; omega)
        · rw [List.length_append]
          show ms.length + 1 ≤ i + 1
          omega
        · rw [List.sum_append, hms, take_more hg, against_snoc, c', if_pos rfl]
          rfl
        · rw [upd_same, List.map_append, List.map_append]
          rfl
      · have c' : (g.voice != e.voice) = false := by
          simp at c
          simp
          omega
        refine ⟨s1, ms, by omega, ?_, hD⟩
        rw [hms, take_more hg, against_snoc, c', if_neg Bool.false_ne_true, Nat.add_zero]
    · rintro H1 ⟨s1, ms, hml, hms, hD⟩
      rw [hV.1, List.take_length] at hms
      refine ⟨D, _, rfl, SqL.of hD, ?_⟩
      rw [sum_toI, hms]
      exact k H1 s1
/-- cost_of_all -/
def spAll (A : At) (K : PySem.W.Frag) : Sp := fun vs H Q _ => ∃ (a p c d : Addr) (N : Addr → Prop) (s : Desk) (l : List Ent), vs = [.ref a, .ref p] ∧ EnsAt A N s H a l ∧ PriceAt A K H p c d s.table ∧ Short s ∧ l.length ≤ 8 ∧
  ∀ H', Same H H' → Q (.int (Cp08.total s l : Int)) H'
theorem ok_cost_of_all (F : Fun K "cost_of_all" "cost_of_all" s_cost_of_all f fd) (T : Txt K mg A) (C_cost_against : Fn P w K mg base "cost_against" 6 ["entry", "others", "prices"] (spAgainst A K)) :
    FnOk P w K mg base CX0 7 f fd ["entries", "prices"] (spAll A K) := by
  refine F.ok sc_cost_of_all (fun vs H Q E h => ?_) (fun cdv A' outer s H vs Q E hr h => ?_)
  · obtain ⟨a, p, c, d, N, s, l, rfl, _⟩ := h
    rfl
  · obtain ⟨a, p, c, d, N, s, l, rfl, ⟨vs, h1, hV⟩, hP, hsh, h8, k⟩ := h
    refine ⟨_, (pss_one (ps_ret (pe_callB (cr_sum rfl) (by rfl) T.b_sum (by decide +kernel) (pa_cons (pe_lc (own := [("at", 2), ("entry", 3)]) (g := gTup K 2 (gCons (gName 2) (gCons (gName 3) gNil))) (te := tCall (spAgainst A K) [] E0 (tCons (tVar 3) (tCons (tSl (rSlL K) (tVar 0) tNoPart (tPart (tVar 2))) (tCons (tVar 1) tNil)))) (tt := tYes) rfl sc_cost_of_all.nd (pi_enum (by rfl) T.b_enumerate (pa_cons (pv 0) pa_nil)) (blkOk_by (own := [("at", 2), ("entry", 3)]) (N := N_cost_of_all) (sc := defScope s_cost_of_all) (by decide +kernel)) (fun _ _ _ _ _ => (pg_tup rfl (pgs_cons (pg_name (i := 2) sc_cost_of_all.nd rfl (Or.inl rfl)) (pgs_cons (pg_name (i := 3) sc_cost_of_all.nd rfl (Or.inl rfl)) pgs_nil)))) (fun _ _ _ _ _ => pts_nil) (fun _ _ _ _ _ => (pe_fn C_cost_against (hr.mono (by decide)) (by rfl) (pa_cons (pv 3) (pa_cons (pe_slice sl_list (pv 0) po_none (po_some (pv 2))) (pa_cons (pv 1) pa_nil)))))) pa_nil)))), ?_⟩
    refine ⟨_, rfl, a, vs, rfl, SqL.of h1, fun D nD => lc_it (walk_enum (K := K) (a := a) (xs := vs)) (fun i H' => Same H H' ∧ ∃ ms : List Nat, ms.length = i ∧ ms.sum = Cp08.total s (l.take i) ∧ H' D = some (.lst ((ms.map toI).map V.int)))
      ⟨same_new nD, [], rfl, rfl, upd_same⟩ (fun i H' _ ⟨s5, _⟩ => SqL.of (s5 _ _ h1)) ?_ ?_⟩
    · rintro i y H1 H1' hi ⟨s1, ms, hml, hms, hD⟩ ⟨t, x, u, rfl, nt, rfl, hxi, hu⟩
      have e0 : x = .int (i : Int) := (Option.some.inj hxi).symm
      subst e0
      have st := same_new (o := HO.tup [V.int (i : Int), u]) nt
      obtain ⟨g, hg, hG0⟩ := hV.2 i u hu
      have s2 := s1.trans st
      refine ⟨t, _, rfl, SqT.of upd_same, rfl, _, _, rfl, _, _, rfl, rfl, rfl, ?_⟩
      refine ⟨_, rfl, _, rfl, _, rfl, _, rfl, a, vs, rfl, SqL.of (s2 _ _ h1), fun b nb => ?_⟩
      rw [cut_hi]
      have sb := same_new (o := HO.lst (vs.take i)) nb
      refine ⟨_, rfl, ?_⟩
      have s3 := s2.trans sb
      refine ⟨u, b, p, c, d, N, N, s, l.take i, g, rfl, hG0.same s3, ⟨_, upd_same, (hV.take i).imp fun _ _ q => q.same s3⟩, hP.same s3, hsh, ?_, fun H3 s4 => ?_⟩
      · rw [List.length_take]
        omega
      · have hD3 := s4 _ _ (sb _ _ (st _ _ hD))
        refine ⟨_, hD3, ?_, same_mut (s3.trans s4) nD, ms ++ [against s (l.take i) g], ?_, ?_, ?_⟩
        · rw [List.length_map, List.length_map]
          exact small1000 (by rw [hV.1] at hi; omega)
        · rw [List.length_append]
          show ms.length + 1 = i + 1
          omega
        · rw [List.sum_append, hms, total_take hg]
          rfl
        · rw [upd_same, List.map_append, List.map_append]
          rfl
    · rintro H1 ⟨s1, ms, hml, hms, hD⟩
      rw [hV.1, List.take_length] at hms
      refine ⟨D, _, rfl, SqL.of hD, ?_⟩
      rw [sum_toI, hms]
      exact k H1 s1
/-- bad_meetings -/
def spBad (A : At) (K : PySem.W.Frag) : Sp := fun vs H Q _ => ∃ (v u : V) (p c d : Addr) (N N' : Addr → Prop) (s : Desk) (e g : Ent), vs = [v, u, .ref p] ∧ EnAt A N s H v e ∧ EnAt A N' s H u g ∧ PriceAt A K H p c d s.table ∧ Short s ∧
  ∀ (H' : Hp) z, Same H H' → H z = none → LstAt CostAt H' z (Cp07.badness s.table (Cp08.voiceOf s e) (Cp08.voiceOf s g)) → (Cp07.badness s.table (Cp08.voiceOf s e) (Cp08.voiceOf s g)).length ≤ 32 → Q (.ref z) H'
theorem ok_bad_meetings (F : Fun K "bad_meetings" "bad_meetings" s_bad_meetings f fd) (T : Txt K mg A) (C_meeting_costs : Fn P w K mg base "meeting_costs" 4 ["first", "second", "prices"] (spCosts A K)) :
    FnOk P w K mg base CX0 5 f fd ["first", "second", "prices"] (spBad A K) := by
  refine F.ok sc_bad_meetings (fun vs H Q E h => ?_) (fun cdv A' outer s H vs Q E hr h => ?_)
  · obtain ⟨v, u, p, c, d, N, N', s, e, g, rfl, _⟩ := h
    rfl
  · obtain ⟨v, u, p, c, d, N, N', s, e, g, rfl, ⟨x, dx, px, rfl, hx, hVx, _⟩, ⟨z, dz, pz, rfl, hz, hVz, _⟩, hP, hsh, k⟩ := h
    refine ⟨_, (pss_one (ps_ret (pe_lc (own := [("meeting", 3)]) (g := gName 3) (te := tVar 3) (tt := tTest (tOp (rI0 fun i j => V.bl (decide (j < i))) (tOp (rIxT K) (tVar 3) (tC (.int 1))) (tC (.int 0)))) rfl sc_bad_meetings.nd (pi_list (pe_fn C_meeting_costs (hr.mono (by decide)) (by rfl) (pa_cons (pe_fld (pv 0) rfl) (pa_cons (pe_fld (pv 1) rfl) (pa_cons (pv 2) pa_nil))))) (blkOk_by (own := [("meeting", 3)]) (N := N_bad_meetings) (sc := defScope s_bad_meetings) (by decide +kernel)) (fun _ _ _ _ _ => (pg_name (i := 3) sc_bad_meetings.nd rfl (Or.inl rfl))) (fun _ _ _ _ _ => (pts_one (pt_cmpR op_gt (pe_ix ix_tup (pv 3) pe_int (fun _ _ => rfl)) pe_int (nomark _)))) (fun _ _ _ _ _ => (pv 3))))), ?_⟩
    refine ⟨_, rfl, x, A.Entry, dx, _, _, rfl, hx, T.cl_Entry, T.n_Entry_part, enF_part .., ?_⟩
    refine ⟨_, rfl, z, A.Entry, dz, _, _, rfl, hz, T.cl_Entry, T.n_Entry_part, enF_part .., ?_⟩
    have na := voice_len hsh e
    have nb := voice_len hsh g
    refine ⟨_, rfl, px, pz, p, c, d, Cp08.voiceOf s e, Cp08.voiceOf s g, s.table, rfl, hVx, hVz, na, nb, hP, fun H1 r s1 nr hL => ?_⟩
    obtain ⟨vs, h1, hV⟩ := hL
    have hlen : (costsOf s.table (Cp08.voiceOf s e) (Cp08.voiceOf s g)).length ≤ 32 := Nat.le_trans (costGo_len ..) (mo_len na nb)
    generalize hcs : costsOf s.table (Cp08.voiceOf s e) (Cp08.voiceOf s g) = cs at hV hlen
    have hbad : Cp07.badness s.table (Cp08.voiceOf s e) (Cp08.voiceOf s g) = cs.filter fun x => x.2 != 0 := by rw [badness_eq, hcs]
    refine ⟨r, rfl, ⟨_, SqL.of h1⟩, fun D nD => lc_list (K := K) (a := r) (xs := vs) (fun i H' => Same H1 H' ∧ LstAt CostAt H' D ((cs.take i).filter fun x => x.2 != 0))
      ⟨same_new nD, [], upd_same, Rel.nil⟩ (fun i H' _ ⟨s5, _⟩ => SqL.of (s5 _ _ h1)) ?_ ?_⟩
    · rintro i y H2 hy ⟨s2, acc, hD, hR⟩
      obtain ⟨x, hxi, hX0⟩ := hV.2 i y hy
      have hX : CostAt H2 y x := hX0.keep (.of s2)
      obtain ⟨t, rfl, ht⟩ := id hX
      have hi : i < vs.length := (List.getElem?_eq_some_iff.mp hy).1
      refine ⟨rfl, ?_⟩
      refine a_test (v_gt (v_ixT (val_var rfl) val_c (SqT.of ht) (atI_nat (j := 1) rfl)) val_c) _ (if_b (fun c => ?_) fun c => ?_)
      · have c' : (x.2 != 0) = true := by
          simp at c
          simp
          omega
        refine ⟨_, rfl, acc, hD, ?_, same_mut s2 nD, ?_⟩
        · rw [hR.1]
          exact small1000 (Nat.le_trans (List.length_filter_le ..) (Nat.le_trans (List.length_take_le' ..) (by omega)))
        · rw [take_more hxi, List.filter_append, List.filter_cons, if_pos c', List.filter_nil]
          exact LstAt.push (R := CostAt) (fun k q => q.keep k) hD hR hX
      · have c' : (x.2 != 0) = false := by
          simp at c
          simp
          omega
        refine ⟨s2, acc, hD, ?_⟩
        rw [take_more hxi, List.filter_append, List.filter_cons, if_neg (by rw [c']; exact Bool.false_ne_true), List.filter_nil, List.append_nil]
        exact hR
    · rintro H2 ⟨s2, hL⟩
      rw [hV.1, List.take_length, ← hbad] at hL
      refine k H2 D (s1.trans s2) (s1.free nD) hL ?_
      rw [hbad]
      exact Nat.le_trans (List.length_filter_le ..) hlen
end
end Fa

set_option Elab.async false
set_option linter.all false
set_option maxRecDepth 100000
set_option maxHeartbeats 4000000
namespace Fa
open PySem PySem.Spec PyProof.Rows L2
open Cp07 (Line Voice Table)
open Cp08 (Desk)
/-! ### The desk -/
structure DeskOk (s : Desk) : Prop where
  sl : s.subject.length ≤ 16
  cl : s.counter.length ≤ 16
  cs : s.counter ≠ [] → s.subject ≠ []
  few : s.entries.length ≤ 8
theorem answer_len (t : Int) (l : Line) : (Cp08.answer t l).length = l.length := by
  unfold Cp08.answer
  rw [List.length_map, List.length_zipIdx]
theorem DeskOk.short {s : Desk} (h : DeskOk s) : Short s := fun k => by
  match k with
  | 0 => exact h.sl
  | 1 =>
    show (Cp08.answer s.tonic s.subject).length ≤ 16
    rw [answer_len]
    exact h.sl
  | 2 => exact h.cl
  | _ + 3 =>
    show (List.map _ s.counter).length ≤ 16
    rw [List.length_map]
    exact h.cl
/-! ### The piece -/
def piF (t : Int) (vS vC : V) (N q : Addr) : List (Str × V) := [("tonic", .int t), ("subject", vS), ("counter", vC), ("entries", .ref N), ("prices", .ref q)]
section
variable (t : Int) (vS vC : V) (N q : Addr)
theorem piF_tonic : (piF t vS vC N q).lookup ("tonic" : Str) = some (.int t) := lk_at 0 (ks := []) rfl rfl (by decide +kernel)
theorem piF_subject : (piF t vS vC N q).lookup ("subject" : Str) = some vS := lk_at 1 (ks := ["tonic"]) rfl rfl (by decide +kernel)
theorem piF_counter : (piF t vS vC N q).lookup ("counter" : Str) = some vC := lk_at 2 (ks := ["tonic", "subject"]) rfl rfl (by decide +kernel)
theorem piF_entries : (piF t vS vC N q).lookup ("entries" : Str) = some (.ref N) := lk_at 3 (ks := ["tonic", "subject", "counter"]) rfl rfl (by decide +kernel)
theorem piF_prices : (piF t vS vC N q).lookup ("prices" : Str) = some (.ref q) := lk_at 4 (ks := ["tonic", "subject", "counter", "entries"]) rfl rfl (by decide +kernel)
theorem piF_no {k : Str} (h : ((["tonic", "subject", "counter", "entries", "prices"] : List Str).all fun g => !(k == g)) = true) : (piF t vS vC N q).lookup k = none := lk_none rfl h
theorem piF_putT (v : Int) : putF "tonic" (.int v) (piF t vS vC N q) = piF v vS vC N q := put_at 0 (ks := []) rfl rfl (by decide +kernel)
theorem piF_putS (v : V) : putF "subject" v (piF t vS vC N q) = piF t v vC N q := put_at 1 (ks := ["tonic"]) rfl rfl (by decide +kernel)
theorem piF_putC (v : V) : putF "counter" v (piF t vS vC N q) = piF t vS v N q := put_at 2 (ks := ["tonic", "subject"]) rfl rfl (by decide +kernel)
theorem piF_putE (v : Addr) : putF "entries" (.ref v) (piF t vS vC N q) = piF t vS vC v q := put_at 3 (ks := ["tonic", "subject", "counter"]) rfl rfl (by decide +kernel)
theorem piF_putP (v : Addr) : putF "prices" (.ref v) (piF t vS vC N q) = piF t vS vC N v := put_at 4 (ks := ["tonic", "subject", "counter", "entries"]) rfl rfl (by decide +kernel)
end
/-- a line that the piece has: None where there is none -/
def OwnL (Z : Addr → Prop) (N : Addr) (H : Hp) (v : V) (l : Line) : Prop := (l = [] ∧ v = .non) ∨ (l ≠ [] ∧ ∃ a, v = .ref a ∧ LineAt H a l ∧ ¬ Z a ∧ a ≠ N)
structure PcAt (A : At) (K : PySem.W.Frag) (Z : Addr → Prop) (H : Hp) (p : Addr) (s : Desk) (dx : Addr) (vS vC : V) (N q c d : Addr) : Prop where
  obj : H p = some (.ins A.Piece dx (piF s.tonic vS vC N q))
  subj : OwnL Z N H vS s.subject
  cnt : OwnL Z N H vC s.counter
  ents : EnsAt A (fun a => Z a ∨ a = N) s H N s.entries
  prc : PriceAt A K H q c d s.table
  zp : ¬ Z p
  zN : ¬ Z N
  zc : ¬ Z c ∧ c ≠ N
  zd : ¬ Z d ∧ d ≠ N
  ok : DeskOk s
def PieceAt (A : At) (K : PySem.W.Frag) (Z : Addr → Prop) (H : Hp) (p : Addr) (s : Desk) : Prop := ∃ dx vS vC N q c d, PcAt A K Z H p s dx vS vC N q c d
section
variable {A : At} {K : PySem.W.Frag} {Z : Addr → Prop} {H H' : Hp} {p dx N q c d : Addr} {s : Desk} {v vS vC : V} {l : Line}
theorem OwnL.same (k : Same H H') (h : OwnL Z N H v l) : OwnL Z N H' v l := by
  rcases h with h | ⟨h0, a, h1, h2, h3⟩
  · exact .inl h
  · exact .inr ⟨h0, a, h1, h2.same k, h3⟩
theorem PcAt.same (k : Same H H') (h : PcAt A K Z H p s dx vS vC N q c d) : PcAt A K Z H' p s dx vS vC N q c d :=
  ⟨k _ _ h.obj, h.subj.same k, h.cnt.same k, h.ents.same k, h.prc.same k, h.zp, h.zN, h.zc, h.zd, h.ok⟩
theorem PieceAt.same (k : Same H H') (h : PieceAt A K Z H p s) : PieceAt A K Z H' p s := by
  obtain ⟨dx, vS, vC, N, q, c, d, h⟩ := h
  exact ⟨dx, vS, vC, N, q, c, d, h.same k⟩
/-- all stands but lists of Z -/
def Mut (Z : Addr → Prop) (H H' : Hp) : Prop := ∀ b o, H b = some o → (¬ Z b ∨ ∀ xs, o ≠ .lst xs) → H' b = some o
theorem SeqH.mut {a : Addr} {ns : List Int} (k : Mut Z H H') (hz : ¬ Z a) (h : SeqH H a ns) : SeqH H' a ns := by
  rcases h with h | h
  · exact .inl (k _ _ h (.inl hz))
  · exact .inr (k _ _ h (.inl hz))
theorem PriceAt.mut {tb : Table} (k : Mut Z H H') (zc : ¬ Z c) (zd : ¬ Z d) (h : PriceAt A K H q c d tb) : PriceAt A K H' q c d tb := by
  obtain ⟨dy, h1⟩ := h.obj
  exact ⟨⟨dy, k _ _ h1 (.inr fun xs e => by cases e)⟩, h.on.mut k zc, h.off.mut k zd, h.ok⟩
theorem LineAt.mut {a : Addr} (k : Mut Z H H') (hz : ¬ Z a) (h : LineAt H a l) : LineAt H' a l := by
  obtain ⟨vs, h1, h2⟩ := h
  refine ⟨vs, k _ _ h1 (.inl hz), h2.imp fun v x ⟨b, e1, e2⟩ => ⟨b, e1, k _ _ e2 (.inr fun xs e => by cases e)⟩⟩
theorem VoiceAt.mut {a : Addr} {l : List Placed} (k : Mut Z H H') (hz : ¬ Z a) (h : VoiceAt H a l) : VoiceAt H' a l := by
  obtain ⟨vs, h1, h2⟩ := h
  refine ⟨vs, k _ _ h1 (.inl hz), h2.imp fun v x ⟨b, e1, e2⟩ => ⟨b, e1, k _ _ e2 (.inr fun xs e => by cases e)⟩⟩
theorem EnAt.mut {Y : Addr → Prop} {e : Ent} (k : Mut Z H H') (hz : ∀ a, Z a → Y a) (h : EnAt A Y s H v e) : EnAt A Y s H' v e := by
  obtain ⟨x, dy, part, h1, h2, h3, h4⟩ := h
  exact ⟨x, dy, part, h1, k _ _ h2 (.inr fun xs e => by cases e), h3.mut k fun z => h4 (hz _ z), h4⟩
theorem EnAt.imp {Y Y' : Addr → Prop} {e : Ent} (hz : ∀ a, Y' a → Y a) (h : EnAt A Y s H v e) : EnAt A Y' s H v e := by
  obtain ⟨x, dy, part, h1, h2, h3, h4⟩ := h
  exact ⟨x, dy, part, h1, h2, h3, fun z => h4 (hz _ z)⟩
theorem OwnL.mut (k : Mut Z H H') (h : OwnL Z N H v l) : OwnL Z N H' v l := by
  rcases h with h | ⟨h0, a, h1, h2, h3, h4⟩
  · exact .inl h
  · exact .inr ⟨h0, a, h1, h2.mut k h3, h3, h4⟩
theorem PcAt.mut (k : Mut Z H H') (h : PcAt A K Z H p s dx vS vC N q c d) : PcAt A K Z H' p s dx vS vC N q c d := by
  obtain ⟨vs, h1, h2⟩ := h.ents
  exact ⟨k _ _ h.obj (.inr fun xs e => by cases e), h.subj.mut k, h.cnt.mut k, ⟨vs, k _ _ h1 (.inl h.zN), h2.imp fun _ _ q => q.mut k fun a z => .inl z⟩, h.prc.mut k h.zc.1 h.zd.1, h.zp, h.zN, h.zc, h.zd, h.ok⟩
theorem PieceAt.mut (k : Mut Z H H') (h : PieceAt A K Z H p s) : PieceAt A K Z H' p s := by
  obtain ⟨dx, vS, vC, N, q, c, d, h⟩ := h
  exact ⟨dx, vS, vC, N, q, c, d, h.mut k⟩
/-- the piece's own object changed -/
theorem SeqH.xc {a C : Addr} {ns : List Int} {fs : List (Str × V)} (hp : H p = some (.ins C dx fs)) (k : Xc p H H') (h : SeqH H a ns) : SeqH H' a ns := by
  rcases h with h | h
  · exact .inl (k _ _ h fun e => by rw [e, hp] at h; cases h)
  · exact .inr (k _ _ h fun e => by rw [e, hp] at h; cases h)
theorem SeqH.some {a : Addr} {ns : List Int} (h : SeqH H a ns) : H a ≠ none := by
  rcases h with h | h
  · rw [h]
    exact fun e => by cases e
  · rw [h]
    exact fun e => by cases e
/-- the piece's own fields are no other object's -/
def Tonic (fs : List (Str × V)) : Prop := (fs.map (·.1)).head? = some "tonic"
theorem piF_is {t : Int} : Tonic (piF t vS vC N q) := rfl
theorem PriceAt.xc {C : Addr} {tb : Table} {fs : List (Str × V)} (hp : H p = some (.ins C dx fs)) (hk : Tonic fs) (k : Xc p H H') (h : PriceAt A K H q c d tb) : PriceAt A K H' q c d tb := by
  obtain ⟨dy, h1⟩ := h.obj
  refine ⟨⟨dy, k _ _ h1 fun e => ?_⟩, h.on.xc hp k, h.off.xc hp k, h.ok⟩
  rw [e, hp] at h1
  have e2 : fs = prF c d tb := by
    have := Option.some.inj h1
    injection this
  unfold Tonic at hk
  rw [e2] at hk
  have e3 : ("on_beat" : Str) = "tonic" := Option.some.inj hk
  exact absurd e3 (by decide +kernel)
theorem EnAt.xc {C : Addr} {Y : Addr → Prop} {e : Ent} {fs : List (Str × V)} (hp : H p = some (.ins C dx fs)) (hk : Tonic fs) (k : Xc p H H') (h : EnAt A Y s H v e) : EnAt A Y s H' v e := by
  obtain ⟨x, dy, part, h1, h2, h3, h4⟩ := h
  refine ⟨x, dy, part, h1, k _ _ h2 fun ex => ?_, h3.xc hp k, h4⟩
  rw [ex, hp] at h2
  have e2 : fs = enF e (Cp07.length (Cp08.lineOf s e.what)) part := by
    have := Option.some.inj h2
    injection this
  unfold Tonic at hk
  rw [e2] at hk
  have e3 : ("kind" : Str) = "tonic" := Option.some.inj hk
  exact absurd e3 (by decide +kernel)
theorem EnsAt.xc {C a : Addr} {Y : Addr → Prop} {es : List Ent} {fs : List (Str × V)} (hp : H p = some (.ins C dx fs)) (hk : Tonic fs) (k : Xc p H H') (h : EnsAt A Y s H a es) : EnsAt A Y s H' a es := by
  obtain ⟨vs, h1, h2⟩ := h
  exact ⟨vs, k _ _ h1 (fun e => by rw [e, hp] at h1; cases h1), h2.imp fun _ _ q => q.xc hp hk k⟩
theorem OwnL.xc {C : Addr} {fs : List (Str × V)} (hp : H p = some (.ins C dx fs)) (k : Xc p H H') (h : OwnL Z N H v l) : OwnL Z N H' v l := by
  rcases h with h | ⟨h0, a, h1, h2, h3⟩
  · exact .inl h
  · exact .inr ⟨h0, a, h1, h2.xc hp k, h3⟩
/-! ### what a call answers -/
def Res (A : At) (K : PySem.W.Frag) (Z : Addr → Prop) (p : Addr) (s : Desk) (ans : List Int) (H : Hp) (Q : VK) : Prop :=
  ∀ (H' : Hp) r, PieceAt A K Z H' p s → (∀ b o, H b = some o → Z b → H' b = some o) → H r = none → H' r = some (.lst (ans.map V.int)) → Q (.ref r) H'
def AnsL (a : Cp08.Ans) : List Int := a.v :: a.l
/-- a call on the piece, as the specification has it -/
def ResC (A : At) (K : PySem.W.Frag) (p : Addr) (c : Cp08.Call) (H : Hp) (Q : VK) : Prop := ∃ (Z : Addr → Prop) (s : Desk), PieceAt A K Z H p s ∧ (∀ z, Z z → H z ≠ none) ∧ Res A K Z p (Cp08.step s c).1 (AnsL (Cp08.step s c).2) H Q
/-- nothing but new things -/
theorem Res.pure {ans : List Int} {Q : VK} (h : Res A K Z p s ans H Q) (hP : PieceAt A K Z H p s) {r : Addr} (k : Same H H') (nr : H r = none) (hr : H' r = some (.lst (ans.map V.int))) : Q (.ref r) H' :=
  h H' r (hP.same k) (fun b o hb _ => k b o hb) nr hr
theorem Res.refuse {n : Int} {Q : VK} (h : Res A K Z p s [n] H Q) (hP : PieceAt A K Z H p s) (k : Same H H') {r : Addr} (nr : H' r = none) : Q (.ref r) (upd H' r (.lst [.int n])) :=
  h.pure hP (k.trans (same_new nr)) (k.free nr) upd_same
end
end Fa

set_option Elab.async false
set_option linter.all false
set_option maxRecDepth 100000
set_option maxHeartbeats 4000000
namespace Fa
open PySem PySem.Spec PyProof.Rows L2
open Cp07 (Line Voice Table)
open Cp08 (Desk)
def missing (s : Desk) (k : Int) : Bool := s.subject.isEmpty || (decide (1 < k) && s.counter.isEmpty)
theorem OwnL.non {Z : Addr → Prop} {N : Addr} {H : Hp} {v : V} {l : Line} (h : OwnL Z N H v l) : decide (v = .non) = l.isEmpty := by
  rcases h with ⟨h1, h2⟩ | ⟨h1, a, h2, _⟩
  · rw [h1, h2]
    rfl
  · rw [h2]
    cases l with
    | nil => exact absurd rfl h1
    | cons x l => rfl
theorem OwnL.at {Z : Addr → Prop} {N : Addr} {H : Hp} {v : V} {l : Line} (h : OwnL Z N H v l) (e : l.isEmpty = false) : ∃ a, v = .ref a ∧ LineAt H a l ∧ ¬ Z a ∧ a ≠ N := by
  rcases h with ⟨h1, h2⟩ | ⟨h1, h2⟩
  · rw [h1] at e
    cases e
  · exact h2
theorem OwnL.no {Z : Addr → Prop} {N : Addr} {H : Hp} {v : V} {l : Line} (h : OwnL Z N H v l) (e : l.isEmpty = true) : v = .non := by
  rcases h with ⟨h1, h2⟩ | ⟨h1, _⟩
  · exact h2
  · exact absurd (List.isEmpty_iff.mp e) h1
section
variable {P : Program} {w : World} {K : PySem.W.Frag} {mg : Str → Option Value} {base : Heap} {A : At} {f : Addr} {fd : FuncData}
theorem ok_is_kind (F : Fun K "is_kind" "is_kind" s_is_kind f fd) (T : Txt K mg A) : FnOk P w K mg base CX0 1 f fd ["number"] (spIn 0 3) := by
  refine F.ok sc_is_kind (fun vs H Q E h => ?_) (fun cdv A' outer s H vs Q E hr h => ?_)
  · obtain ⟨n, rfl, _⟩ := h
    rfl
  · obtain ⟨n, rfl, q⟩ := h
    refine ⟨_, (pss_one (ps_ret (pe_chain op_le op_le (pe_cst (by rfl) T.c_SUBJECT_KIND) (pv 0) (pe_cst (by rfl) T.c_RAISED_COUNTER_KIND)))), ?_⟩
    exact v_chain val_c (val_var rfl) val_c _ q
/-- is_entry -/
def spIsEntry (A : At) (K : PySem.W.Frag) : Sp := fun vs H Q _ => ∃ (Z : Addr → Prop) (p : Addr) (s : Desk) (i : Int), vs = [.ref p, .int i] ∧ PieceAt A K Z H p s ∧ Q (.bl (Cp08.isIn 0 ((s.entries.length : Int) - 1) i)) H
theorem ok_is_entry (F : Fun K "is_entry" "Piece.is_entry" s_Piece_is_entry f fd) (T : Txt K mg A) : FnOk P w K mg base CX0 1 f fd ["self", "number"] (spIsEntry A K) := by
  refine F.ok sc_Piece_is_entry (fun vs H Q E h => ?_) (fun cdv A' outer s H vs Q E hr h => ?_)
  · obtain ⟨Z, p, s, i, rfl, _⟩ := h
    rfl
  · obtain ⟨Z, p, s, i, rfl, ⟨dx, vS, vC, N, q, c, d, h⟩, k⟩ := h
    refine ⟨_, (pss_one (ps_ret (pe_chain op_le op_lt pe_int (pv 1) (pe_callB call_len_seq (by rfl) T.b_len (by decide +kernel) (pa_cons (pe_fld (pv 0) rfl) pa_nil))))), ?_⟩
    obtain ⟨vs, h1, hV⟩ := h.ents
    refine v_is (v_chainG (p := fun i j => decide (i ≤ j)) (p' := fun i j => decide (i < j)) val_c (val_var rfl) (v_len (val_fld (val_var rfl) h.obj T.cl_Piece T.n_Piece_entries (piF_entries ..)) (SqL.of h1))) ?_ _ k
    congr 1
    rw [hV.1]
    unfold Cp08.isIn
    rw [Bool.eq_iff_iff]
    simp only [Bool.and_eq_true, decide_eq_true_eq]
    omega
/-- line_of_kind -/
def spLineOf (A : At) (K : PySem.W.Frag) : Sp := fun vs H Q _ => ∃ (Z : Addr → Prop) (p : Addr) (s : Desk) (k : Int), vs = [.ref p, .int k] ∧ PieceAt A K Z H p s ∧ 0 ≤ k ∧ k ≤ 3 ∧
  ∀ H', Same H H' → (missing s k = true → Q .non H') ∧ (missing s k = false → ∀ a, LineAt H' a (Cp08.lineOf s k.toNat) → Q (.ref a) H')
theorem ok_line_of_kind (F : Fun K "line_of_kind" "Piece.line_of_kind" s_Piece_line_of_kind f fd) (T : Txt K mg A) (C_answer_of : Fn P w K mg base "answer_of" 3 ["events", "tonic"] spAnswer) (C_raised : Fn P w K mg base "raised" 2 ["events", "steps"] spRaised) :
    FnOk P w K mg base CX0 4 f fd ["self", "kind"] (spLineOf A K) := by
  refine F.ok sc_Piece_line_of_kind (fun vs H Q E h => ?_) (fun cdv A' outer s H vs Q E hr h => ?_)
  · obtain ⟨Z, p, s, k, rfl, _⟩ := h
    rfl
  · obtain ⟨Z, p, s, k, rfl, ⟨dx, vS, vC, N, q, c, d, h⟩, k0, k3, go⟩ := h
    refine ⟨_, (pss_cons (ps_if (PW.pt (pw_or (pt_cmpR op_eq (pv 1) (pe_cst (by rfl) T.c_SUBJECT_KIND) (nomark _)) (pw_or1 (pt_cmpR op_isN (pe_fld (pv 0) rfl) pe_non (nomark _))))) (pss_one (ps_ret (pe_fld (pv 0) rfl))) pss_nil)
      (pss_cons (ps_if (pt_cmpR op_eq (pv 1) (pe_cst (by rfl) T.c_ANSWER_KIND) (nomark _)) (pss_one (ps_ret (pe_fn C_answer_of (hr.mono (by decide)) (by rfl) (pa_cons (pe_fld (pv 0) rfl) (pa_cons (pe_fld (pv 0) rfl) pa_nil))))) pss_nil)
      (pss_cons (ps_if (PW.pt (pw_or (pt_cmpR op_eq (pv 1) (pe_cst (by rfl) T.c_COUNTER_KIND) (nomark _)) (pw_or1 (pt_cmpR op_isN (pe_fld (pv 0) rfl) pe_non (nomark _))))) (pss_one (ps_ret (pe_fld (pv 0) rfl))) pss_nil)
      (pss_one (ps_ret (pe_fn C_raised (hr.mono (by decide)) (by rfl) (pa_cons (pe_fld (pv 0) rfl) (pa_cons (pe_cst (by rfl) T.c_FIFTH) pa_nil)))))))), ?_⟩
    refine a_or (a_test (v_eqI (val_var rfl) val_c)) (fun _ => a_test (v_isN (val_fld (val_var rfl) h.obj T.cl_Piece T.n_Piece_subject (piF_subject ..)))) _ (if_b (fun b => ?_) fun b => ?_)
    · refine ⟨_, rfl, p, A.Piece, dx, _, _, rfl, h.obj, T.cl_Piece, T.n_Piece_subject, piF_subject .., ?_⟩
      rw [h.subj.non, Bool.or_eq_true, decide_eq_true_eq] at b
      cases e : s.subject.isEmpty with
      | true =>
        rw [h.subj.no e]
        exact (go H (.refl H)).1 (by unfold missing; rw [e]; rfl)
      | false =>
        obtain ⟨a, rfl, hA, _⟩ := h.subj.at e
        rw [e] at b
        have ek : k = 0 := by
          rcases b with b | b
          · exact b
          · cases b
        subst ek
        exact (go H (.refl H)).2 (by unfold missing; rw [e]; rfl) a hA
    · rw [h.subj.non, Bool.or_eq_false_iff, decide_eq_false_iff_not] at b
      obtain ⟨a, rfl, hA, _⟩ := h.subj.at b.2
      refine a_test (v_eqI (val_var rfl) val_c) _ (if_b (fun b2 => ?_) fun b2 => ?_)
      · have ek : k = 1 := of_decide_eq_true b2
        subst ek
        refine ⟨_, rfl, p, A.Piece, dx, _, _, rfl, h.obj, T.cl_Piece, T.n_Piece_subject, piF_subject .., ?_⟩
        refine ⟨_, rfl, p, A.Piece, dx, _, _, rfl, h.obj, T.cl_Piece, T.n_Piece_tonic, piF_tonic .., ?_⟩
        refine ⟨a, _, _, rfl, hA, h.ok.sl, fun H1 r s1 nr hR => ?_⟩
        exact (go H1 s1).2 (by unfold missing; rw [b.2]; rfl) r hR
      · have b2' := of_decide_eq_false b2
        refine a_or (a_test (v_eqI (val_var rfl) val_c)) (fun _ => a_test (v_isN (val_fld (val_var rfl) h.obj T.cl_Piece T.n_Piece_counter (piF_counter ..)))) _ (if_b (fun b3 => ?_) fun b3 => ?_)
        · refine ⟨_, rfl, p, A.Piece, dx, _, _, rfl, h.obj, T.cl_Piece, T.n_Piece_counter, piF_counter .., ?_⟩
          rw [h.cnt.non, Bool.or_eq_true, decide_eq_true_eq] at b3
          have h1k : decide (1 < k) = true := decide_eq_true (by omega)
          cases e : s.counter.isEmpty with
          | true =>
            rw [h.cnt.no e]
            exact (go H (.refl H)).1 (by unfold missing; rw [e, h1k, b.2]; rfl)
          | false =>
            obtain ⟨a, rfl, hA, _⟩ := h.cnt.at e
            rw [e] at b3
            have ek : k = 2 := by
              rcases b3 with b3 | b3
              · exact b3
              · cases b3
            subst ek
            exact (go H (.refl H)).2 (by unfold missing; rw [e, b.2]; rfl) a hA
        · rw [h.cnt.non, Bool.or_eq_false_iff, decide_eq_false_iff_not] at b3
          obtain ⟨a, rfl, hA, _⟩ := h.cnt.at b3.2
          have ek : k = 3 := by omega
          subst ek
          refine ⟨_, rfl, p, A.Piece, dx, _, _, rfl, h.obj, T.cl_Piece, T.n_Piece_counter, piF_counter .., ?_⟩
          refine ⟨a, _, 4, rfl, hA, h.ok.cl, fun H1 r s1 nr hR => ?_⟩
          exact (go H1 s1).2 (by unfold missing; rw [b.2, b3.2]; rfl) r hR
/-- lowered_counter -/
def spLowered (A : At) (K : PySem.W.Frag) : Sp := fun vs H Q _ => ∃ (Z : Addr → Prop) (p : Addr) (s : Desk) (u : Int), vs = [.ref p, .int u] ∧ PieceAt A K Z H p s ∧ s.counter.isEmpty = false ∧
  ∀ (H' : Hp) r, Same H H' → H r = none → VoiceAt H' r (placedL 0 (Cp08.shift (-u) s.counter)) → Q (.ref r) H'
theorem ok_lowered_counter (F : Fun K "lowered_counter" "Piece.lowered_counter" s_Piece_lowered_counter f fd) (T : Txt K mg A) (C_placed : Fn P w K mg base "placed" 1 ["events", "start"] spPlaced) (C_raised : Fn P w K mg base "raised" 2 ["events", "steps"] spRaised) :
    FnOk P w K mg base CX0 3 f fd ["self", "steps"] (spLowered A K) := by
  refine F.ok sc_Piece_lowered_counter (fun vs H Q E h => ?_) (fun cdv A' outer s H vs Q E hr h => ?_)
  · obtain ⟨Z, p, s, u, rfl, _⟩ := h
    rfl
  · obtain ⟨Z, p, s, u, rfl, ⟨dx, vS, vC, N, q, c, d, h⟩, hc, go⟩ := h
    refine ⟨_, (pss_one (ps_ret (pe_fn C_placed (hr.mono (by decide)) (by rfl) (pa_cons (pe_fn C_raised (hr.mono (by decide)) (by rfl) (pa_cons (pe_fld (pv 0) rfl) (pa_cons (pe_un un_neg (pv 1)) pa_nil))) (pa_cons pe_int pa_nil))))), ?_⟩
    obtain ⟨a, rfl, hA, _⟩ := h.cnt.at hc
    refine ⟨_, rfl, p, A.Piece, dx, _, _, rfl, h.obj, T.cl_Piece, T.n_Piece_counter, piF_counter .., ?_⟩
    refine ⟨_, rfl, _, rfl, ?_⟩
    refine ⟨a, _, -u, rfl, hA, h.ok.cl, fun H1 b s1 nb hB => ?_⟩
    refine ⟨b, _, 0, rfl, hB, (by rw [List.length_map]; exact h.ok.cl), fun H2 r s2 nr hR => ?_⟩
    exact go H2 r (s1.trans s2) (s1.free nr) hR
/-- cost_lowered -/
def spCostLow (A : At) (K : PySem.W.Frag) : Sp := fun vs H Q _ => ∃ (Z : Addr → Prop) (p : Addr) (s : Desk) (u : Int), vs = [.ref p, .int u] ∧ PieceAt A K Z H p s ∧ s.counter.isEmpty = false ∧
  ∀ H', Same H H' → Q (.int (Cp07.cost s.table (0, Cp08.shift (-u) s.counter) (0, s.subject) : Int)) H'
theorem ok_cost_lowered (F : Fun K "cost_lowered" "Piece.cost_lowered" s_Piece_cost_lowered f fd) (T : Txt K mg A) (C_placed : Fn P w K mg base "placed" 1 ["events", "start"] spPlaced) (C_Piece_lowered_counter : Mt P w K mg base A.Piece "lowered_counter" 3 ["self", "steps"] (spLowered A K))
    (C_voices_cost : Fn P w K mg base "voices_cost" 5 ["first", "second", "prices"] (spVCost A K)) : FnOk P w K mg base CX0 6 f fd ["self", "steps"] (spCostLow A K) := by
  refine F.ok sc_Piece_cost_lowered (fun vs H Q E h => ?_) (fun cdv A' outer s H vs Q E hr h => ?_)
  · obtain ⟨Z, p, s, u, rfl, _⟩ := h
    rfl
  · obtain ⟨Z, p, s, u, rfl, hP, hc, go⟩ := h
    obtain ⟨dx, vS, vC, N, q, c, d, h⟩ := id hP
    refine ⟨_, (pss_one (ps_ret (pe_fn C_voices_cost (hr.mono (by decide)) (by rfl) (pa_cons (pe_mt (pv 0) T.cl_Piece C_Piece_lowered_counter (hr.mono (by decide)) (pa_cons (pv 1) pa_nil)) (pa_cons (pe_fn C_placed (hr.mono (by decide)) (by rfl) (pa_cons (pe_fld (pv 0) rfl) (pa_cons pe_int pa_nil))) (pa_cons (pe_fld (pv 0) rfl) pa_nil)))))), ?_⟩
    have hs : s.subject.isEmpty = false := by
      have := h.ok.cs fun e => by rw [e] at hc; cases hc
      cases e : s.subject with
      | nil => exact absurd e this
      | cons x l => rfl
    refine ⟨_, rfl, p, dx, _, rfl, h.obj, piF_no _ _ _ _ _ (by decide +kernel), _, rfl, Z, p, s, u, rfl, hP, hc, fun H1 r s1 nr hR => ?_⟩
    have h1 := h.same s1
    obtain ⟨a, rfl, hA, _⟩ := h1.subj.at hs
    refine ⟨_, rfl, p, A.Piece, dx, _, _, rfl, h1.obj, T.cl_Piece, T.n_Piece_subject, piF_subject .., ?_⟩
    refine ⟨a, _, 0, rfl, hA, h.ok.sl, fun H2 b s2 nb hB => ?_⟩
    have h2 := h1.same s2
    refine ⟨_, rfl, p, A.Piece, dx, _, _, rfl, h2.obj, T.cl_Piece, T.n_Piece_prices, piF_prices .., ?_⟩
    refine ⟨r, b, q, c, d, (0, Cp08.shift (-u) s.counter), (0, s.subject), s.table, rfl, hR.same s2, hB, ?_, h.ok.sl, h2.prc, fun H3 s3 => ?_⟩
    · show (List.map _ s.counter).length ≤ 16
      rw [List.length_map]
      exact h.ok.cl
    · exact go H3 (s1.trans (s2.trans s3))
/-- times_still_above -/
def spStill (A : At) (K : PySem.W.Frag) : Sp := fun vs H Q _ => ∃ (Z : Addr → Prop) (p : Addr) (s : Desk) (u : Int), vs = [.ref p, .int u] ∧ PieceAt A K Z H p s ∧ s.counter.isEmpty = false ∧
  ∀ (H' : Hp) r, Same H H' → H r = none → (aboveL (0, Cp08.shift (-u) s.counter) (0, s.subject)).length ≤ 32 → H' r = some (.lst (((aboveL (0, Cp08.shift (-u) s.counter) (0, s.subject)).map toI).map V.int)) → Q (.ref r) H'
theorem ok_times_still_above (F : Fun K "times_still_above" "Piece.times_still_above" s_Piece_times_still_above f fd) (T : Txt K mg A) (C_placed : Fn P w K mg base "placed" 1 ["events", "start"] spPlaced) (C_Piece_lowered_counter : Mt P w K mg base A.Piece "lowered_counter" 3 ["self", "steps"] (spLowered A K))
    (C_times_above : Fn P w K mg base "times_above" 5 ["first", "second"] (spAbove A)) : FnOk P w K mg base CX0 6 f fd ["self", "steps"] (spStill A K) := by
  refine F.ok sc_Piece_times_still_above (fun vs H Q E h => ?_) (fun cdv A' outer s H vs Q E hr h => ?_)
  · obtain ⟨Z, p, s, u, rfl, _⟩ := h
    rfl
  · obtain ⟨Z, p, s, u, rfl, hP, hc, go⟩ := h
    obtain ⟨dx, vS, vC, N, q, c, d, h⟩ := id hP
    refine ⟨_, (pss_one (ps_ret (pe_fn C_times_above (hr.mono (by decide)) (by rfl) (pa_cons (pe_mt (pv 0) T.cl_Piece C_Piece_lowered_counter (hr.mono (by decide)) (pa_cons (pv 1) pa_nil)) (pa_cons (pe_fn C_placed (hr.mono (by decide)) (by rfl) (pa_cons (pe_fld (pv 0) rfl) (pa_cons pe_int pa_nil))) pa_nil))))), ?_⟩
    have hs : s.subject.isEmpty = false := by
      have := h.ok.cs fun e => by rw [e] at hc; cases hc
      cases e : s.subject with
      | nil => exact absurd e this
      | cons x l => rfl
    refine ⟨_, rfl, p, dx, _, rfl, h.obj, piF_no _ _ _ _ _ (by decide +kernel), _, rfl, Z, p, s, u, rfl, hP, hc, fun H1 r s1 nr hR => ?_⟩
    have h1 := h.same s1
    obtain ⟨a, rfl, hA, _⟩ := h1.subj.at hs
    refine ⟨_, rfl, p, A.Piece, dx, _, _, rfl, h1.obj, T.cl_Piece, T.n_Piece_subject, piF_subject .., ?_⟩
    refine ⟨a, _, 0, rfl, hA, h.ok.sl, fun H2 b s2 nb hB => ?_⟩
    refine ⟨r, b, (0, Cp08.shift (-u) s.counter), (0, s.subject), rfl, hR.same s2, hB, ?_, h.ok.sl, fun H3 z s3 nz hl hz => ?_⟩
    · show (List.map _ s.counter).length ≤ 16
      rw [List.length_map]
      exact h.ok.cl
    · exact go H3 z (s1.trans (s2.trans s3)) (s1.free (s2.free nz)) hl hz
end
end Fa

set_option Elab.async false
set_option linter.all false
set_option maxRecDepth 100000
set_option maxHeartbeats 4000000
namespace Fa
open PySem PySem.Spec PyProof.Rows L2
open Cp07 (Line Voice Table)
open Cp08 (Desk)
theorem any_snoc {α : Type} (g : α → Bool) (l : List α) : (l.map g).any id = l.any g := by
  rw [List.any_map]
  rfl
section
variable {P : Program} {w : World} {K : PySem.W.Frag} {mg : Str → Option Value} {base : Heap} {A : At} {f : Addr} {fd : FuncData}
/-- made_entry -/
def spMade (A : At) (K : PySem.W.Frag) : Sp := fun vs H Q _ => ∃ (Z : Addr → Prop) (p : Addr) (s : Desk) (e : Ent), vs = [.ref p, .int (e.what : Int), .int (e.at_ : Int), .int e.oct, .int (e.voice : Int)] ∧ PieceAt A K Z H p s ∧ e.what ≤ 3 ∧ -4 ≤ e.oct ∧ e.oct ≤ 4 ∧ missing s (e.what : Int) = false ∧
  ∀ (H' : Hp) v, Same H H' → EnAt A (fun a => H a ≠ none) s H' v e → Q v H'
theorem ok_made_entry (F : Fun K "made_entry" "Piece.made_entry" s_Piece_made_entry f fd) (T : Txt K mg A) (C_Entry_init : Nw P w K mg base "Entry" A.Entry 3 ["self", "kind", "time", "octaves", "voice", "events"] (spEnInit A))
    (C_Piece_line_of_kind : Mt P w K mg base A.Piece "line_of_kind" 4 ["self", "kind"] (spLineOf A K)) : FnOk P w K mg base CX0 5 f fd ["self", "kind", "time", "octaves", "voice"] (spMade A K) := by
  refine F.ok sc_Piece_made_entry (fun vs H Q E h => ?_) (fun cdv A' outer s H vs Q E hr h => ?_)
  · obtain ⟨Z, p, s, e, rfl, _⟩ := h
    rfl
  · obtain ⟨Z, p, s, e, rfl, hP, h3, o1, o2, hm, go⟩ := h
    obtain ⟨dx, vS, vC, N, q, c, d, h⟩ := id hP
    refine ⟨_, (pss_one (ps_ret (pe_new C_Entry_init (hr.mono (by decide)) (by rfl) (pa_cons (pv 1) (pa_cons (pv 2) (pa_cons (pv 3) (pa_cons (pv 4) (pa_cons (pe_mt (pv 0) T.cl_Piece C_Piece_line_of_kind (hr.mono (by decide)) (pa_cons (pv 1) pa_nil)) pa_nil)))))))), ?_⟩
    refine ⟨_, rfl, _, rfl, _, rfl, _, rfl, ?_⟩
    refine ⟨_, rfl, p, dx, _, rfl, h.obj, piF_no _ _ _ _ _ (by decide +kernel), _, rfl, Z, p, s, (e.what : Int), rfl, hP, by omega, by omega, fun H1 s1 => ⟨fun m => ?_, fun m a hA => ?_⟩⟩
    · rw [hm] at m
      cases m
    · intro x dz nx nd ne
      have e0 : ((e.what : Int)).toNat = e.what := Int.toNat_natCast _
      rw [e0] at hA
      have sx : Same H1 (upd (upd H1 dz (.own x)) x (.ins A.Entry dz [])) := (same_new nd).trans (same_new (by rw [upd_ne (Ne.symm ne)]; exact nx))
      refine ⟨x, dz, a, e, _, rfl, upd_same, hA.same sx, h.ok.short _, o1, o2, fun H2 part np hx hV k2 => ⟨rfl, ?_⟩⟩
      have k3 : Same H1 H2 := fun b o hb => k2 _ _ (sx _ _ hb) (ne_of_none hb nx)
      refine go H2 _ (s1.trans k3) ⟨x, dz, part, rfl, hx, hV, fun z => z (s1.free (sx.free np))⟩
/-- entry_refusal -/
def rangeB (k t o v : Int) : Bool := !Cp08.isIn 0 3 k || (!Cp08.isIn 0 8192 t || (!Cp08.isIn (-4) 4 o || !Cp08.isIn 0 3 v))
def refV (s : Desk) (k t o v : Int) : V := if rangeB k t o v then .int (-1) else if missing s k then .int (-7) else if s.entries.any (Cp08.clash s ⟨k.toNat, t.toNat, o, v.toNat⟩) = true then .int (-4) else .non
theorem range_eq (k t o v : Int) : (!Cp07.isIn 0 3 k || !placeB t o v) = rangeB k t o v := by
  unfold placeB rangeB
  show (!Cp08.isIn 0 3 k || !(Cp08.isIn 0 8192 t && (Cp08.isIn (-4) 4 o && Cp08.isIn 0 3 v))) = _
  cases Cp08.isIn 0 3 k <;> cases Cp08.isIn 0 8192 t <;> cases Cp08.isIn (-4) 4 o <;> cases Cp08.isIn 0 3 v <;> rfl
theorem range_ok {k t o v : Int} (h : rangeB k t o v = false) : (0 ≤ k ∧ k ≤ 3) ∧ (0 ≤ t ∧ t ≤ 8192) ∧ (-4 ≤ o ∧ o ≤ 4) ∧ 0 ≤ v ∧ v ≤ 3 := by
  unfold rangeB Cp08.isIn at h
  simp at h
  omega
def spRefusal (A : At) (K : PySem.W.Frag) : Sp := fun vs H Q _ => ∃ (Z : Addr → Prop) (p : Addr) (s : Desk) (k t o v : Int), vs = [.ref p, .int k, .int t, .int o, .int v] ∧ PieceAt A K Z H p s ∧ ∀ H', Same H H' → Q (refV s k t o v) H'
theorem ok_entry_refusal (F : Fun K "entry_refusal" "Piece.entry_refusal" s_Piece_entry_refusal f fd) (T : Txt K mg A) (C_is_kind : Fn P w K mg base "is_kind" 1 ["number"] (spIn 0 3)) (C_is_place : Fn P w K mg base "is_place" 1 ["time", "octaves", "voice"] spPlace)
    (C_Piece_line_of_kind : Mt P w K mg base A.Piece "line_of_kind" 4 ["self", "kind"] (spLineOf A K)) (C_Piece_made_entry : Mt P w K mg base A.Piece "made_entry" 5 ["self", "kind", "time", "octaves", "voice"] (spMade A K))
    (C_overlap : Fn P w K mg base "overlap" 1 ["first", "second"] (spOverlap A)) : FnOk P w K mg base CX0 6 f fd ["self", "kind", "time", "octaves", "voice"] (spRefusal A K) := by
  refine F.ok sc_Piece_entry_refusal (fun vs H Q E h => ?_) (fun cdv A' outer s H vs Q E hr h => ?_)
  · obtain ⟨Z, p, s, k, t, o, v, rfl, _⟩ := h
    rfl
  · obtain ⟨Z, p, s, k, t, o, v, rfl, hP, go⟩ := h
    obtain ⟨dx, vS, vC, N, q, c, d, h⟩ := id hP
    refine ⟨_, (pss_cons (ps_if (PW.pt (pw_or (pt_not (pt_val (pe_fn C_is_kind (hr.mono (by decide)) (by rfl) (pa_cons (pv 1) pa_nil)))) (pw_or1 (pt_not (pt_val (pe_fn C_is_place (hr.mono (by decide)) (by rfl) (pa_cons (pv 2) (pa_cons (pv 3) (pa_cons (pv 4) pa_nil))))))))) (pss_one (ps_ret (pe_cst (by rfl) T.c_OUT_OF_RANGE))) pss_nil)
      (pss_cons (ps_if (pt_cmpR op_isN (pe_mt (pv 0) T.cl_Piece C_Piece_line_of_kind (hr.mono (by decide)) (pa_cons (pv 1) pa_nil)) pe_non (nomark _)) (pss_one (ps_ret (pe_cst (by rfl) T.c_NO_LINE))) pss_nil)
      (pss_cons (ps_set (i := 5) sc_Piece_entry_refusal.nd rfl (Or.inr rfl) (pe_mt (pv 0) T.cl_Piece C_Piece_made_entry (hr.mono (by decide)) (pa_cons (pv 1) (pa_cons (pv 2) (pa_cons (pv 3) (pa_cons (pv 4) pa_nil))))))
      (pss_cons (ps_if (pt_val (pe_callB (cr_any rfl) (by rfl) T.b_any (by decide +kernel) (pa_cons (pe_lc (own := [("other", 6)]) (g := gName 6) (te := tCall (spOverlap A) [] E0 (tCons (tVar 5) (tCons (tVar 6) tNil))) (tt := tYes) rfl sc_Piece_entry_refusal.nd (pi_list (pe_fld (pv 0) rfl)) (blkOk_by (own := [("other", 6)]) (N := N_Piece_entry_refusal) (sc := defScope s_Piece_entry_refusal) (by decide +kernel)) (fun _ _ _ _ _ => (pg_name (i := 6) sc_Piece_entry_refusal.nd rfl (Or.inl rfl))) (fun _ _ _ _ _ => pts_nil) (fun _ _ _ _ _ => (pe_fn C_overlap (hr.mono (by decide)) (by rfl) (pa_cons (pv 5) (pa_cons (pv 6) pa_nil))))) pa_nil))) (pss_one (ps_ret (pe_cst (by rfl) T.c_OVERLAP))) pss_nil)
      (pss_one (ps_ret pe_non)))))), ?_⟩
    refine a_or (a := !Cp07.isIn 0 3 k) (b := !placeB t o v) (a_not (a_val (v_call1 (val_var rfl) fun Q q => ⟨_, rfl, q⟩))) (fun _ => a_not (a_val fun Q q => ⟨_, rfl, _, rfl, _, rfl, t, o, v, rfl, q⟩)) _ (if_b (fun b => ?_) fun b => ?_)
    · rw [range_eq] at b
      have := go H (.refl H)
      unfold refV at this
      rw [if_pos b] at this
      exact this
    · rw [range_eq] at b
      obtain ⟨⟨k0, k3⟩, ⟨t0, t1⟩, ⟨o1, o2⟩, v0, v3⟩ := range_ok b
      have eR : refV s k t o v = if missing s k then .int (-7) else if s.entries.any (Cp08.clash s ⟨k.toNat, t.toNat, o, v.toNat⟩) = true then .int (-4) else .non := by
        unfold refV
        rw [if_neg (by rw [b]; exact Bool.false_ne_true)]
      refine ⟨_, rfl, p, dx, _, rfl, h.obj, piF_no _ _ _ _ _ (by decide +kernel), _, rfl, Z, p, s, k, rfl, hP, k0, k3, fun H1 s1 => ⟨fun m => ?_, fun m a hA => ?_⟩⟩
      · refine ⟨rfl, _, rfl, ?_⟩
        have := go H1 s1
        rw [eR, if_pos m] at this
        exact this
      · refine ⟨rfl, _, rfl, if_b (fun c => absurd (of_decide_eq_true c) fun z => by cases z) fun _ => ?_⟩
        have h1 := h.same s1
        have ke : ((k.toNat : Nat) : Int) = k := Int.toNat_of_nonneg k0
        have te : ((t.toNat : Nat) : Int) = t := Int.toNat_of_nonneg t0
        have ve : ((v.toNat : Nat) : Int) = v := Int.toNat_of_nonneg v0
        -- entry = self.made_entry(kind, time, octaves, voice)
        refine ⟨_, rfl, p, dx, _, rfl, h1.obj, piF_no _ _ _ _ _ (by decide +kernel), _, rfl, _, rfl, _, rfl, _, rfl, ?_⟩
        refine ⟨Z, p, s, ⟨k.toNat, t.toNat, o, v.toNat⟩, ?_, hP.same s1, by show k.toNat ≤ 3; omega, o1, o2, ?_, fun H2 ev s2 hE => ?_⟩
        · show _ = [V.ref p, V.int ((k.toNat : Nat) : Int), V.int ((t.toNat : Nat) : Int), V.int o, V.int ((v.toNat : Nat) : Int)]
          rw [ke, te, ve]
          rfl
        · show missing s ((k.toNat : Nat) : Int) = false
          rw [ke]
          exact m
        · have h2 := h1.same s2
          obtain ⟨vs, hN, hV⟩ := h2.ents
          -- any([overlap(entry, other) for other in self.entries])
          refine ⟨_, rfl, p, A.Piece, dx, _, _, rfl, h2.obj, T.cl_Piece, T.n_Piece_entries, piF_entries .., ?_⟩
          refine ⟨N, rfl, ⟨_, SqL.of hN⟩, fun D nD => lc_list (K := K) (a := N) (xs := vs) (fun i H' => Same H2 H' ∧ H' D = some (.lst (((s.entries.take i).map (Cp08.clash s ⟨k.toNat, t.toNat, o, v.toNat⟩)).map V.bl)))
            ⟨same_new nD, upd_same⟩ (fun i H' _ ⟨s5, _⟩ => SqL.of (s5 _ _ hN)) ?_ ?_⟩
          · rintro i x H3 hx ⟨s3, hD⟩
            obtain ⟨g, hg, hG⟩ := hV.2 i x hx
            refine ⟨rfl, _, rfl, _, rfl, ev, x, _, _, s, _, g, rfl, hE.same s3, hG.same s3, ?_⟩
            have hi : i < s.entries.length := (List.getElem?_eq_some_iff.mp hg).1
            refine ⟨_, hD, ?_, same_mut s3 nD, ?_⟩
            · rw [List.length_map, List.length_map]
              exact small1000 (Nat.le_trans (List.length_take_le' ..) (by have := h.ok.few; omega))
            · rw [upd_same, take_more hg, List.map_append, List.map_append]
              rfl
          · rintro H3 ⟨s3, hD⟩
            rw [hV.1, List.take_length] at hD
            refine ⟨D, _, rfl, SqL.of hD, _, rfl, ?_⟩
            rw [any_snoc]
            have := go H3 (s1.trans (s2.trans s3))
            rw [eR, if_neg (by rw [m]; exact Bool.false_ne_true)] at this
            refine if_b (fun c => ?_) fun c => ?_
            · rw [if_pos c] at this
              exact this
            · rw [if_neg (by rw [c]; exact Bool.false_ne_true)] at this
              exact this
/-- Piece.__init__ -/
theorem tab0_eq : tabOf [0, 10, 0, 6, 0, 0, 10, 0, 3, 0, 2, 0, 0, 3, 8, 16] = Cp07.table0 := rfl
def spPcInit (A : At) (K : PySem.W.Frag) : Sp := fun vs H Q _ => ∃ (p dx : Addr), vs = [.ref p] ∧ H p = some (.ins A.Piece dx []) ∧
  ∀ (H' : Hp), (∀ Z : Addr → Prop, (∀ z, Z z → H' z = none) → PieceAt A K Z H' p Cp08.start) → Xc p H H' → Q .non H'
theorem ok_Piece_init (F : Fun K "__init__" "Piece.__init__" s_Piece_init f fd) (T : Txt K mg A) (C_Prices_init : Nw P w K mg base "Prices" A.Prices 1 ["self", "numbers"] (spPrInit A K)) :
    FnOk P w K mg base CX0 3 f fd ["self"] (spPcInit A K) := by
  refine F.ok sc_Piece_init (fun vs H Q E h => ?_) (fun cdv A' outer s H vs Q E hr h => ?_)
  · obtain ⟨p, dx, rfl, _⟩ := h
    rfl
  · obtain ⟨p, dx, rfl, hp, q⟩ := h
    refine ⟨_, (pss_cons (ps_fld (pv 0) (pe_cst (by rfl) T.c_FIRST_TONIC) rfl)
      (pss_cons (ps_fld (pv 0) pe_non rfl)
      (pss_cons (ps_fld (pv 0) pe_non rfl)
      (pss_cons (ps_fld (pv 0) (pe_lst pa_nil) rfl)
      (pss_one (ps_fld (pv 0) (pe_new C_Prices_init (hr.mono (by decide)) (by rfl) (pa_cons (pe_gref (by rfl) T.t_FIRST_PRICES) pa_nil)) rfl)))))), ?_⟩
    refine ⟨_, rfl, p, A.Piece, dx, [], rfl, hp, T.cl_Piece, T.n_Piece_tonic, (by show 0 < 1000; decide), ?_⟩
    rw [put_new (fs := []) (ks := []) rfl rfl]
    refine ⟨_, rfl, p, A.Piece, dx, _, rfl, upd_same, T.cl_Piece, T.n_Piece_subject, (by show 1 < 1000; decide), ?_⟩
    rw [put_new (ks := ["tonic"]) rfl (by decide +kernel)]
    refine ⟨_, rfl, p, A.Piece, dx, _, rfl, upd_same, T.cl_Piece, T.n_Piece_counter, (by show 2 < 1000; decide), ?_⟩
    rw [put_new (ks := ["tonic", "subject"]) rfl (by decide +kernel)]
    generalize hH3 : upd (upd (upd H p _) p _) p _ = H3
    have hp3 : H3 p = some (.ins A.Piece dx [("tonic", .int 28), ("subject", .non), ("counter", .non)]) := by
      rw [← hH3, upd_same]
      rfl
    have x3 : Xc p H H3 := fun b o hb ne => by
      rw [← hH3, upd_ne ne, upd_ne ne, upd_ne ne]
      exact hb
    -- self.entries = []
    refine ⟨Nat.zero_le _, fun N nN => ?_⟩
    have sN := same_new (o := HO.lst []) nN
    refine ⟨_, rfl, p, A.Piece, dx, _, rfl, sN _ _ hp3, T.cl_Piece, T.n_Piece_entries, (by show 3 < 1000; decide), ?_⟩
    rw [put_new (ks := ["tonic", "subject", "counter"]) rfl (by decide +kernel)]
    have npN : p ≠ N := ne_of_none hp3 nN
    generalize hH4 : upd (upd H3 N (HO.lst [])) p _ = H4
    have hp4 : H4 p = some (.ins A.Piece dx [("tonic", .int 28), ("subject", .non), ("counter", .non), ("entries", .ref N)]) := by
      rw [← hH4, upd_same]
      rfl
    have hN4 : H4 N = some (.lst []) := by
      rw [← hH4, upd_ne npN.symm, upd_same]
    have x4 : Xc p H3 H4 := fun b o hb ne => by
      rw [← hH4, upd_ne ne]
      exact sN _ _ hb
    -- self.prices = Prices(FIRST_PRICES)
    intro x dz nx nd ne
    have sx : Same H4 (upd (upd H4 dz (.own x)) x (.ins A.Prices dz [])) := (same_new nd).trans (same_new (by rw [upd_ne (Ne.symm ne)]; exact nx))
    refine ⟨x, dz, _, [0, 10, 0, 6, 0, 0, 10, 0, 3, 0, 2, 0, 0, 3, 8, 16], rfl, upd_same, .inr (T.w_FIRST_PRICES _), rfl, by decide, by decide, fun H5 a b na nb hPr k5 => ⟨rfl, ?_⟩⟩
    rw [tab0_eq] at hPr
    have s5 : Same H4 H5 := fun b o hb => k5 _ _ (sx _ _ hb) (ne_of_none hb nx)
    have hp5 := s5 _ _ hp4
    refine ⟨_, rfl, p, A.Piece, dx, _, rfl, hp5, T.cl_Piece, T.n_Piece_prices, (by show 4 < 1000; decide), ?_⟩
    rw [put_new (ks := ["tonic", "subject", "counter", "entries"]) rfl (by decide +kernel)]
    generalize hH6 : upd H5 p _ = H6
    have hp6 : H6 p = some (.ins A.Piece dx (piF 28 .non .non N x)) := by
      rw [← hH6, upd_same]
      rfl
    have x6 : Xc p H5 H6 := fun b o hb ne => by
      rw [← hH6, upd_ne ne]
      exact hb
    have hN6 : H6 N = some (.lst []) := x6 _ _ (s5 _ _ hN4) npN.symm
    have hPr6 : PriceAt A K H6 x a b Cp07.table0 := hPr.xc hp5 rfl x6
    have tz : ∀ {Z : Addr → Prop} {a : Addr}, (∀ z, Z z → H6 z = none) → H6 a ≠ none → ¬ Z a := fun hz ha z => ha (hz _ z)
    refine q H6 (fun Z hZ => ⟨dx, .non, .non, N, x, a, b, hp6, .inl ⟨rfl, rfl⟩, .inl ⟨rfl, rfl⟩, ⟨[], hN6, Rel.nil⟩, hPr6, tz hZ (by rw [hp6]; exact fun e => by cases e), tz hZ (by rw [hN6]; exact fun e => by cases e), ⟨tz hZ hPr6.on.some, ?_⟩, ⟨tz hZ hPr6.off.some, ?_⟩, ⟨Nat.zero_le _, Nat.zero_le _, fun e => absurd rfl e, Nat.zero_le _⟩⟩) ?_
    · rintro rfl
      rw [sx _ _ hN4] at na
      cases na
    · rintro rfl
      rw [sx _ _ hN4] at nb
      cases nb
    · exact fun b o hb hne => x6 _ _ (s5 _ _ (x4 _ _ (x3 _ _ hb hne) hne)) hne
end
end Fa

set_option Elab.async false
set_option linter.all false
set_option maxRecDepth 100000
set_option maxHeartbeats 4000000
namespace Fa
open PySem PySem.Spec PyProof.Rows L2
open Cp07 (Line Voice Table)
open Cp08 (Desk)
theorem shift_zero (l : Line) : Cp08.shift 0 l = l := by
  rw [shift_eq]
  have : ∀ e ∈ l, raiseE 0 e = e := fun e _ => by
    unfold raiseE
    cases h : e.n with
    | none =>
      cases e
      cases h
      rfl
    | some z =>
      cases e
      cases h
      show (⟨some (z + 0), _⟩ : Cp07.Event) = _
      rw [Int.add_zero]
  rw [List.map_congr_left this, List.map_id']
section
variable {P : Program} {w : World} {K : PySem.W.Frag} {mg : Str → Option Value} {base : Heap} {A : At} {f : Addr} {fd : FuncData}
/-- a call without numbers -/
def spC0 (A : At) (K : PySem.W.Frag) (c : Cp08.Call) : Sp := fun vs H Q _ => ∃ p, vs = [.ref p] ∧ ResC A K p c H Q
def spC1 (A : At) (K : PySem.W.Frag) (c : Int → Cp08.Call) : Sp := fun vs H Q _ => ∃ p k, vs = [.ref p, .int k] ∧ ResC A K p (c k) H Q
theorem ok_tell_answer (F : Fun K "tell_answer" "Piece.tell_answer" s_Piece_tell_answer f fd) (T : Txt K mg A) (C_changed_by_answer : Fn P w K mg base "changed_by_answer" 3 ["events", "tonic"] spChanged)
    (C_tell_events : Fn P w K mg base "tell_events" 1 ["events"] spTell) (C_answer_of : Fn P w K mg base "answer_of" 3 ["events", "tonic"] spAnswer) : FnOk P w K mg base CX0 4 f fd ["self"] (spC0 A K .answer) := by
  refine F.ok sc_Piece_tell_answer (fun vs H Q E h => ?_) (fun cdv A' outer s H vs Q E hr h => ?_)
  · obtain ⟨p, rfl, _⟩ := h
    rfl
  · obtain ⟨p, rfl, Z, s, hP, hZ, res⟩ := h
    obtain ⟨dx, vS, vC, N, q, c, d, h⟩ := id hP
    refine ⟨_, (pss_cons (ps_if (pt_cmpR op_isN (pe_fld (pv 0) rfl) pe_non (nomark _)) (pss_one (ps_ret (pe_lst (pa_cons (pe_cst (by rfl) T.c_NO_LINE) pa_nil)))) pss_nil)
      (pss_cons (ps_set (i := 1) sc_Piece_tell_answer.nd rfl (Or.inl rfl) (pe_fn C_changed_by_answer (hr.mono (by decide)) (by rfl) (pa_cons (pe_fld (pv 0) rfl) (pa_cons (pe_fld (pv 0) rfl) pa_nil))))
      (pss_one (ps_ret (pe_op op_cat (pe_lst (pa_cons (pv 1) pa_nil)) (pe_fn C_tell_events (hr.mono (by decide)) (by rfl) (pa_cons (pe_fn C_answer_of (hr.mono (by decide)) (by rfl) (pa_cons (pe_fld (pv 0) rfl) (pa_cons (pe_fld (pv 0) rfl) pa_nil))) pa_nil))))))), ?_⟩
    refine a_test (v_isN (val_fld (val_var rfl) h.obj T.cl_Piece T.n_Piece_subject (piF_subject ..))) _ (if_b (fun b => ?_) fun b => ?_)
    · rw [h.subj.non] at b
      have e : Cp08.step s .answer = (s, Cp08.just (-7)) := by
        unfold Cp08.step
        dsimp only
        rw [if_pos b]
      rw [e] at res
      exact ⟨(by show 1 ≤ sizeLine; decide), fun r nr => Res.refuse res hP (.refl H) nr⟩
    · rw [h.subj.non] at b
      obtain ⟨a, rfl, hA, _⟩ := h.subj.at b
      have e : Cp08.step s .answer = (s, ⟨(Cp08.same (Cp08.answer s.tonic s.subject) (Cp08.real s.subject) : Int), Cp08.shown (Cp08.answer s.tonic s.subject)⟩) := by
        unfold Cp08.step
        dsimp only
        rw [if_neg (by rw [b]; exact Bool.false_ne_true)]
      rw [e] at res
      refine ⟨_, rfl, p, A.Piece, dx, _, _, rfl, h.obj, T.cl_Piece, T.n_Piece_subject, piF_subject .., ?_⟩
      refine ⟨_, rfl, p, A.Piece, dx, _, _, rfl, h.obj, T.cl_Piece, T.n_Piece_tonic, piF_tonic .., ?_⟩
      refine ⟨a, _, _, rfl, hA, h.ok.sl, fun H1 s1 => ?_⟩
      refine ⟨_, rfl, (by show 1 ≤ sizeLine; decide), fun l nl => ?_⟩
      have sl := same_new (o := HO.lst [V.int (Cp08.same (Cp08.answer s.tonic s.subject) (Cp08.real s.subject) : Int)]) nl
      have h2 := h.same (s1.trans sl)
      refine ⟨_, rfl, p, A.Piece, dx, _, _, rfl, h2.obj, T.cl_Piece, T.n_Piece_subject, piF_subject .., ?_⟩
      refine ⟨_, rfl, p, A.Piece, dx, _, _, rfl, h2.obj, T.cl_Piece, T.n_Piece_tonic, piF_tonic .., ?_⟩
      refine ⟨a, _, _, rfl, hA.same (s1.trans sl), h.ok.sl, fun H3 b3 s3 nb3 hB => ?_⟩
      have hlen : (Cp08.answer s.tonic s.subject).length ≤ 16 := by
        rw [answer_len]
        exact h.ok.sl
      refine ⟨b3, _, rfl, hB, hlen, fun H4 b4 s4 nb4 hB4 => ?_⟩
      have s34 := s3.trans s4
      refine ⟨l, b4, _, _, rfl, rfl, s34 _ _ upd_same, hB4, ?_, fun r nr => ?_⟩
      · rw [List.length_map]
        have := shown_len (Cp08.answer s.tonic s.subject)
        have h1 : [V.int (Cp08.same (Cp08.answer s.tonic s.subject) (Cp08.real s.subject) : Int)].length = 1 := rfl
        rw [h1]
        exact Nat.le_of_lt (small1000 (by omega))
      · have s14 := s1.trans (sl.trans s34)
        refine Res.pure res hP (s14.trans (same_new nr)) (s14.free nr) ?_
        rw [upd_same]
        rfl
theorem ok_tell_line (F : Fun K "tell_line" "Piece.tell_line" s_Piece_tell_line f fd) (T : Txt K mg A) (C_is_kind : Fn P w K mg base "is_kind" 1 ["number"] (spIn 0 3)) (C_Piece_line_of_kind : Mt P w K mg base A.Piece "line_of_kind" 4 ["self", "kind"] (spLineOf A K))
    (C_tell_events : Fn P w K mg base "tell_events" 1 ["events"] spTell) : FnOk P w K mg base CX0 5 f fd ["self", "kind"] (spC1 A K .line) := by
  refine F.ok sc_Piece_tell_line (fun vs H Q E h => ?_) (fun cdv A' outer s H vs Q E hr h => ?_)
  · obtain ⟨p, k, rfl, _⟩ := h
    rfl
  · obtain ⟨p, k, rfl, Z, s, hP, hZ, res⟩ := h
    obtain ⟨dx, vS, vC, N, q, c, d, h⟩ := id hP
    refine ⟨_, (pss_cons (ps_if (pt_not (pt_val (pe_fn C_is_kind (hr.mono (by decide)) (by rfl) (pa_cons (pv 1) pa_nil)))) (pss_one (ps_ret (pe_lst (pa_cons (pe_cst (by rfl) T.c_OUT_OF_RANGE) pa_nil)))) pss_nil)
      (pss_cons (ps_set (i := 2) sc_Piece_tell_line.nd rfl (Or.inl rfl) (pe_mt (pv 0) T.cl_Piece C_Piece_line_of_kind (hr.mono (by decide)) (pa_cons (pv 1) pa_nil)))
      (pss_cons (ps_if (pt_cmpR op_isN (pv 2) pe_non (nomark _)) (pss_one (ps_ret (pe_lst (pa_cons (pe_cst (by rfl) T.c_NO_LINE) pa_nil)))) pss_nil)
      (pss_one (ps_ret (pe_op op_cat (pe_lst (pa_cons (pe_callB call_len_seq (by rfl) T.b_len (by decide +kernel) (pa_cons (pv 2) pa_nil)) pa_nil)) (pe_fn C_tell_events (hr.mono (by decide)) (by rfl) (pa_cons (pv 2) pa_nil)))))))), ?_⟩
    refine s_qif (a_not (a_val (v_call1 (v := .bl (Cp07.isIn 0 3 k)) (val_var rfl) fun Q q => ⟨_, rfl, q⟩))) (if_b (fun b => ?_) fun b => ?_)
    · have b' : (!Cp08.isIn 0 3 k) = true := b
      have e : Cp08.step s (.line k) = (s, Cp08.just (-1)) := by
        unfold Cp08.step
        dsimp only
        rw [if_pos b']
      rw [e] at res
      exact ⟨(by show 1 ≤ sizeLine; decide), fun r nr => Res.refuse res hP (.refl H) nr⟩
    · have b' : (!Cp08.isIn 0 3 k) = false := b
      have kk : 0 ≤ k ∧ k ≤ 3 := by
        unfold Cp08.isIn at b'
        simp at b'
        omega
      have e0 : Cp08.step s (.line k) = (s, if missing s k then Cp08.just (-7) else ⟨((Cp08.lineOf s k.toNat).length : Int), Cp08.shown (Cp08.lineOf s k.toNat)⟩) := by
        unfold Cp08.step missing
        dsimp only
        rw [if_neg (by rw [b']; exact Bool.false_ne_true)]
      refine ⟨_, rfl, p, dx, _, rfl, h.obj, piF_no _ _ _ _ _ (by decide +kernel), _, rfl, Z, p, s, k, rfl, hP, kk.1, kk.2, fun H1 s1 => ⟨fun m => ?_, fun m a hA => ?_⟩⟩
      · rw [e0, if_pos m] at res
        exact ⟨_, rfl, rfl, _, rfl, (by show 1 ≤ sizeLine; decide), fun r nr => Res.refuse res hP s1 nr⟩
      · rw [e0, if_neg (by rw [m]; exact Bool.false_ne_true)] at res
        refine ⟨_, rfl, rfl, _, rfl, if_b (fun c => absurd (of_decide_eq_true c) fun z => by cases z) fun _ => ?_⟩
        obtain ⟨ws, hw, hW⟩ := id hA
        refine ⟨_, rfl, a, ws, rfl, .inl (SqL.of hw), ?_⟩
        refine ⟨(by show 1 ≤ sizeLine; decide), fun l nl => ?_⟩
        have sl := same_new (o := HO.lst [V.int (ws.length : Int)]) nl
        have hlen := h.ok.short k.toNat
        refine ⟨_, rfl, a, _, rfl, hA.same sl, hlen, fun H4 b4 s4 nb4 hB4 => ?_⟩
        refine ⟨l, b4, _, _, rfl, rfl, s4 _ _ upd_same, hB4, ?_, fun r nr => ?_⟩
        · rw [List.length_map]
          have := shown_len (Cp08.lineOf s k.toNat)
          have h1 : [V.int (ws.length : Int)].length = 1 := rfl
          rw [h1]
          exact Nat.le_of_lt (small1000 (by omega))
        · have s14 := s1.trans (sl.trans s4)
          refine Res.pure res hP (s14.trans (same_new nr)) (s14.free nr) ?_
          rw [upd_same, hW.1]
          rfl
theorem swap_cost (s : Desk) (n : Int) : Cp08.atPlace s.table n (0, s.counter) (0, s.subject) = Cp07.cost s.table (0, Cp08.shift (-(n - 1)) s.counter) (0, s.subject) := by
  rw [show -(n - 1) = 1 - n by omega]
  rfl
theorem swap_above (s : Desk) (n : Int) : Cp08.overlaps n (0, s.counter) (0, s.subject) = aboveL (0, Cp08.shift (-(n - 1)) s.counter) (0, s.subject) := by
  rw [show -(n - 1) = 1 - n by omega]
  rfl
theorem ok_tell_swap (F : Fun K "tell_swap" "Piece.tell_swap" s_Piece_tell_swap f fd) (T : Txt K mg A) (C_Piece_times_still_above : Mt P w K mg base A.Piece "times_still_above" 6 ["self", "steps"] (spStill A K))
    (C_Piece_cost_lowered : Mt P w K mg base A.Piece "cost_lowered" 6 ["self", "steps"] (spCostLow A K)) : FnOk P w K mg base CX0 7 f fd ["self", "n"] (spC1 A K .swap) := by
  refine F.ok sc_Piece_tell_swap (fun vs H Q E h => ?_) (fun cdv A' outer s H vs Q E hr h => ?_)
  · obtain ⟨p, k, rfl, _⟩ := h
    rfl
  · obtain ⟨p, n, rfl, Z, s, hP, hZ, res⟩ := h
    obtain ⟨dx, vS, vC, N, q, c, d, h⟩ := id hP
    refine ⟨_, (pss_cons (ps_if (pt_not (pt_chain op_le op_le pe_int (pv 1) (pe_cst (by rfl) T.c_LAST_SWAP))) (pss_one (ps_ret (pe_lst (pa_cons (pe_cst (by rfl) T.c_OUT_OF_RANGE) pa_nil)))) pss_nil)
      (pss_cons (ps_if (pt_cmpR op_isN (pe_fld (pv 0) rfl) pe_non (nomark _)) (pss_one (ps_ret (pe_lst (pa_cons (pe_cst (by rfl) T.c_NO_LINE) pa_nil)))) pss_nil)
      (pss_cons (ps_set (i := 2) sc_Piece_tell_swap.nd rfl (Or.inl rfl) (pe_mt (pv 0) T.cl_Piece C_Piece_times_still_above (hr.mono (by decide)) (pa_cons (pe_op op_sub (pv 1) pe_int) pa_nil)))
      (pss_one (ps_ret (pe_op op_cat (pe_lst (pa_cons (pe_mt (pv 0) T.cl_Piece C_Piece_cost_lowered (hr.mono (by decide)) (pa_cons (pe_op op_sub (pv 1) pe_int) pa_nil)) (pa_cons (pe_callB call_len_seq (by rfl) T.b_len (by decide +kernel) (pa_cons (pv 2) pa_nil)) pa_nil))) (pv 2))))))), ?_⟩
    refine s_qif (a_not (a_test (v_chain val_c (val_var rfl) val_c))) (if_b (fun b => ?_) fun b => ?_)
    · have b' : (!Cp08.isIn 1 22 n) = true := b
      have e : Cp08.step s (.swap n) = (s, Cp08.just (-1)) := by
        unfold Cp08.step
        dsimp only
        rw [if_pos b']
      rw [e] at res
      exact ⟨(by show 1 ≤ sizeLine; decide), fun r nr => Res.refuse res hP (.refl H) nr⟩
    · have b' : (!Cp08.isIn 1 22 n) = false := b
      have e0 : Cp08.step s (.swap n) = (s, if s.counter.isEmpty then Cp08.just (-7) else ⟨(Cp08.atPlace s.table n (0, s.counter) (0, s.subject) : Int), ((Cp08.overlaps n (0, s.counter) (0, s.subject)).length : Int) :: (Cp08.overlaps n (0, s.counter) (0, s.subject)).map toI⟩) := by
        unfold Cp08.step
        dsimp only
        rw [if_neg (by rw [b']; exact Bool.false_ne_true)]
        rfl
      refine a_test (v_isN (val_fld (val_var rfl) h.obj T.cl_Piece T.n_Piece_counter (piF_counter ..))) _ (if_b (fun g => ?_) fun g => ?_)
      · rw [h.cnt.non] at g
        rw [e0, if_pos g] at res
        exact ⟨(by show 1 ≤ sizeLine; decide), fun r nr => Res.refuse res hP (.refl H) nr⟩
      · rw [h.cnt.non] at g
        rw [e0, if_neg (by rw [g]; exact Bool.false_ne_true), swap_cost, swap_above] at res
        -- times = self.times_still_above(n - 1)
        refine ⟨_, rfl, p, dx, _, rfl, h.obj, piF_no _ _ _ _ _ (by decide +kernel), _, rfl, _, _, rfl, rfl, Z, p, s, n - 1, rfl, hP, g, fun H1 a s1 na hl hA => ?_⟩
        generalize aboveL (0, Cp08.shift (-(n - 1)) s.counter) (0, s.subject) = ts at hl hA res
        have h1 := h.same s1
        refine ⟨_, rfl, p, dx, _, rfl, h1.obj, piF_no _ _ _ _ _ (by decide +kernel), _, rfl, _, _, rfl, rfl, Z, p, s, n - 1, rfl, hP.same s1, g, fun H2 s2 => ?_⟩
        refine ⟨_, rfl, a, _, rfl, .inl (SqL.of (s2 _ _ hA)), ?_⟩
        refine ⟨(by show 2 ≤ sizeLine; decide), fun l nl => ?_⟩
        have nla : a ≠ l := ne_of_none (s2 _ _ hA) nl
        refine ⟨_, rfl, l, a, _, _, rfl, rfl, upd_same, Eq.trans (upd_ne nla) (s2 _ _ hA), ?_, fun r nr => ?_⟩
        · rw [List.length_map, List.length_map]
          have h1 : ∀ x y : V, [x, y].length = 2 := fun _ _ => rfl
          rw [h1]
          exact Nat.le_of_lt (small1000 (by omega))
        · have s14 := s1.trans (s2.trans (same_new (o := HO.lst [V.int (Cp07.cost s.table (0, Cp08.shift (-(n - 1)) s.counter) (0, s.subject) : Int), V.int (((ts.map toI).map V.int).length : Int)]) nl))
          refine Res.pure res hP (s14.trans (same_new nr)) (s14.free nr) ?_
          rw [upd_same, List.length_map, List.length_map]
          rfl
end
end Fa

set_option Elab.async false
set_option linter.all false
set_option maxRecDepth 100000
set_option maxHeartbeats 4000000
namespace Fa
open PySem PySem.Spec PyProof.Rows L2
open Cp07 (Line Voice Table)
open Cp08 (Desk)
/-- what swaps tells of one n -/
def swG (s : Desk) (k : Nat) : List Int := [(Cp08.atPlace s.table ((k : Int) + 1) (0, s.counter) (0, s.subject) : Int), ((Cp08.overlaps ((k : Int) + 1) (0, s.counter) (0, s.subject)).length : Int)]
def swL (s : Desk) (i : Nat) : List Int := (Cp07.cost s.table (0, s.counter) (0, s.subject) : Int) :: (List.range i).flatMap (swG s)
theorem swL_more (s : Desk) (i : Nat) : swL s (i + 1) = (swL s i ++ [(Cp08.atPlace s.table ((i : Int) + 1) (0, s.counter) (0, s.subject) : Int)]) ++ [((Cp08.overlaps ((i : Int) + 1) (0, s.counter) (0, s.subject)).length : Int)] := by
  unfold swL
  rw [List.range_succ, List.flatMap_append, List.flatMap_singleton]
  unfold swG
  rw [List.cons_append, List.cons_append, List.append_assoc]
  rfl
theorem swL_len (s : Desk) : ∀ i : Nat, (swL s i).length = 1 + 2 * i
  | 0 => rfl
  | i + 1 => by
    rw [swL_more, List.length_append, List.length_append, swL_len s i]
    show 1 + 2 * i + 1 + 1 = _
    omega
theorem min_le' {i j : Int} (h : i < j) : min i j = i := by omega
theorem bad_at {s : Desk} {i j : Int} {e g : Ent} (b' : (!Cp08.isIn 0 ((s.entries.length : Int) - 1) i || (!Cp08.isIn 0 ((s.entries.length : Int) - 1) j || i == j)) = false) (ne : i ≠ j) (he : s.entries[i.toNat]? = some e) (hg : s.entries[j.toNat]? = some g) :
    Cp08.step s (.bad i j) = (s, ⟨((Cp07.badness s.table (Cp08.voiceOf s e) (Cp08.voiceOf s g)).length : Int), (Cp07.badness s.table (Cp08.voiceOf s e) (Cp08.voiceOf s g)).flatMap fun (x : Nat × Nat) => [(x.1 : Int), (x.2 : Int)]⟩) := by
  unfold Cp08.step
  dsimp only
  rw [if_neg (by rw [b']; exact Bool.false_ne_true)]
  by_cases c : i < j
  · rw [show min i j = i by omega, show max i j = j by omega, he, hg]
  · rw [show min i j = j by omega, show max i j = i by omega, he, hg, ← badness_comm s.table (Cp08.voiceOf s e) (Cp08.voiceOf s g)]
section
variable {P : Program} {w : World} {K : PySem.W.Frag} {mg : Str → Option Value} {base : Heap} {A : At} {f : Addr} {fd : FuncData}
theorem ok_tell_swaps (F : Fun K "tell_swaps" "Piece.tell_swaps" s_Piece_tell_swaps f fd) (T : Txt K mg A) (C_Piece_times_still_above : Mt P w K mg base A.Piece "times_still_above" 6 ["self", "steps"] (spStill A K))
    (C_Piece_cost_lowered : Mt P w K mg base A.Piece "cost_lowered" 6 ["self", "steps"] (spCostLow A K)) : FnOk P w K mg base CX0 7 f fd ["self"] (spC0 A K .swaps) := by
  refine F.ok sc_Piece_tell_swaps (fun vs H Q E h => ?_) (fun cdv A' outer s H vs Q E hr h => ?_)
  · obtain ⟨p, rfl, _⟩ := h
    rfl
  · obtain ⟨p, rfl, Z, s, hP, hZ, res⟩ := h
    obtain ⟨dx, vS, vC, N, q, c, d, h⟩ := id hP
    refine ⟨_, (pss_cons (ps_if (pt_cmpR op_isN (pe_fld (pv 0) rfl) pe_non (nomark _)) (pss_one (ps_ret (pe_lst (pa_cons (pe_cst (by rfl) T.c_NO_LINE) pa_nil)))) pss_nil)
      (pss_cons (ps_set (i := 1) sc_Piece_tell_swaps.nd rfl (Or.inl rfl) (pe_lst (pa_cons (pe_mt (pv 0) T.cl_Piece C_Piece_cost_lowered (hr.mono (by decide)) (pa_cons pe_int pa_nil)) pa_nil)))
      (pss_cons (ps_for PassesOwn.never rfl (pi_range2 (by rfl) T.b_range (pa_cons pe_int (pa_cons (pe_op op_add (pe_cst (by rfl) T.c_LAST_SWAP) pe_int) pa_nil))) (pg_name (i := 2) sc_Piece_tell_swaps.nd rfl (Or.inl rfl)) (pss_cons (ps_expr (pe_bm PySem.F.plainAttrs_list PySem.F.slot_list_append PySem.F.type_list_append mt_append (pv 1) (pa_cons (pe_mt (pv 0) T.cl_Piece C_Piece_cost_lowered (hr.mono (by decide)) (pa_cons (pe_op op_sub (pv 2) pe_int) pa_nil)) pa_nil)))
      (pss_one (ps_expr (pe_bm PySem.F.plainAttrs_list PySem.F.slot_list_append PySem.F.type_list_append mt_append (pv 1) (pa_cons (pe_callB call_len_seq (by rfl) T.b_len (by decide +kernel) (pa_cons (pe_mt (pv 0) T.cl_Piece C_Piece_times_still_above (hr.mono (by decide)) (pa_cons (pe_op op_sub (pv 2) pe_int) pa_nil)) pa_nil)) pa_nil))))))
      (pss_one (ps_ret (pv 1)))))), ?_⟩
    have e0 : Cp08.step s .swaps = (s, if s.counter.isEmpty then Cp08.just (-7) else ⟨(Cp07.cost s.table (0, s.counter) (0, s.subject) : Int), (List.range 22).flatMap (swG s)⟩) := rfl
    refine a_test (v_isN (val_fld (val_var rfl) h.obj T.cl_Piece T.n_Piece_counter (piF_counter ..))) _ (if_b (fun g => ?_) fun g => ?_)
    · rw [h.cnt.non] at g
      rw [e0, if_pos g] at res
      exact ⟨(by show 1 ≤ sizeLine; decide), fun r nr => Res.refuse res hP (.refl H) nr⟩
    · rw [h.cnt.non] at g
      rw [e0, if_neg (by rw [g]; exact Bool.false_ne_true)] at res
      -- told = [self.cost_lowered(0)]
      refine ⟨_, rfl, p, dx, _, rfl, h.obj, piF_no _ _ _ _ _ (by decide +kernel), Z, p, s, 0, rfl, hP, g, fun H1 s1 => ?_⟩
      refine ⟨(by show 1 ≤ sizeLine; decide), fun o no => ?_⟩
      have so := same_new (o := HO.lst [V.int (Cp07.cost s.table (0, Cp08.shift (-0) s.counter) (0, s.subject) : Int)]) no
      have e1 : Cp08.shift (-0) s.counter = s.counter := shift_zero _
      rw [e1] at so ⊢
      -- for n in range(1, 23)
      refine ⟨_, _, rfl, rfl, 1, 23, rfl, ⟨by decide, by decide, by decide, by decide⟩, for_range (n := 22) (fun i σ H' => ∃ v2 : Option V, σ = [some (.ref p), some (.ref o), v2] ∧ Same H H' ∧ H' o = some (.lst ((swL s i).map V.int)))
        ⟨none, rfl, s1.trans so, upd_same⟩ ?_ ?_⟩
      · rintro i σ H2 hi ⟨v2, rfl, s2, hO⟩
        have h2 := h.same s2
        have eu : (1 : Int) + (i : Int) - 1 = ((i : Int) + 1) - 1 := by omega
        -- told.append(self.cost_lowered(n - 1))
        refine ⟨_, rfl, .inl ⟨rfl, _, SqL.of hO⟩, ?_⟩
        refine ⟨_, rfl, p, dx, _, rfl, h2.obj, piF_no _ _ _ _ _ (by decide +kernel), _, rfl, _, _, rfl, rfl, Z, p, s, 1 + (i : Int) - 1, rfl, hP.same s2, g, fun H3 s3 => ?_⟩
        have hO3 := s3 _ _ hO
        rw [eu, ← swap_cost]
        refine ⟨o, _, _, rfl, rfl, hO3, ?_, ?_⟩
        · rw [List.length_map, swL_len]
          exact small1000 (by omega)
        generalize hH4 : upd H3 o (HO.lst ((swL s i).map V.int ++ [V.int (Cp08.atPlace s.table ((i : Int) + 1) (0, s.counter) (0, s.subject) : Int)])) = H4
        have s4 : Same H H4 := by
          rw [← hH4]
          exact same_mut (s2.trans s3) (s1.free no)
        have hO4 : H4 o = some (.lst ((swL s i).map V.int ++ [V.int (Cp08.atPlace s.table ((i : Int) + 1) (0, s.counter) (0, s.subject) : Int)])) := by
          rw [← hH4, upd_same]
        have h4 := h.same s4
        -- told.append(len(self.times_still_above(n - 1)))
        refine ⟨_, rfl, .inl ⟨rfl, _, SqL.of hO4⟩, ?_⟩
        refine ⟨_, rfl, p, dx, _, rfl, h4.obj, piF_no _ _ _ _ _ (by decide +kernel), _, rfl, _, _, rfl, rfl, Z, p, s, 1 + (i : Int) - 1, rfl, hP.same s4, g, fun H5 a s5 na hl hA => ?_⟩
        rw [eu, ← swap_above] at hA
        refine ⟨a, _, rfl, .inl (SqL.of hA), ?_⟩
        have hO5 := s5 _ _ hO4
        refine ⟨o, _, _, rfl, rfl, hO5, ?_, ?_⟩
        · rw [List.length_append, List.length_map, swL_len]
          exact small1000 (by show 1 + 2 * i + 1 ≤ 1000; omega)
        · refine ⟨_, rfl, same_mut (s4.trans s5) (s1.free no), ?_⟩
          rw [upd_same, swL_more, List.map_append, List.map_append, List.length_map, List.length_map]
          rfl
      · rintro σ H2 ⟨v2, rfl, s2, hO⟩
        exact ⟨_, rfl, Res.pure res hP s2 (s1.free no) hO⟩
theorem ok_tell_cost (F : Fun K "tell_cost" "Piece.tell_cost" s_Piece_tell_cost f fd) (T : Txt K mg A) (C_cost_of_all : Fn P w K mg base "cost_of_all" 7 ["entries", "prices"] (spAll A K)) :
    FnOk P w K mg base CX0 8 f fd ["self"] (spC0 A K .cost) := by
  refine F.ok sc_Piece_tell_cost (fun vs H Q E h => ?_) (fun cdv A' outer s H vs Q E hr h => ?_)
  · obtain ⟨p, rfl, _⟩ := h
    rfl
  · obtain ⟨p, rfl, Z, s, hP, hZ, res⟩ := h
    obtain ⟨dx, vS, vC, N, q, c, d, h⟩ := id hP
    refine ⟨_, (pss_one (ps_ret (pe_lst (pa_cons (pe_fn C_cost_of_all (hr.mono (by decide)) (by rfl) (pa_cons (pe_fld (pv 0) rfl) (pa_cons (pe_fld (pv 0) rfl) pa_nil))) (pa_cons (pe_callB call_len_seq (by rfl) T.b_len (by decide +kernel) (pa_cons (pe_fld (pv 0) rfl) pa_nil)) pa_nil))))), ?_⟩
    refine ⟨_, rfl, p, A.Piece, dx, _, _, rfl, h.obj, T.cl_Piece, T.n_Piece_entries, piF_entries .., ?_⟩
    refine ⟨_, rfl, p, A.Piece, dx, _, _, rfl, h.obj, T.cl_Piece, T.n_Piece_prices, piF_prices .., ?_⟩
    refine ⟨N, q, c, d, _, s, s.entries, rfl, h.ents, h.prc, h.ok.short, h.ok.few, fun H1 s1 => ?_⟩
    have h1 := h.same s1
    obtain ⟨vs, hN, hV⟩ := h1.ents
    refine ⟨_, rfl, p, A.Piece, dx, _, _, rfl, h1.obj, T.cl_Piece, T.n_Piece_entries, piF_entries .., N, vs, rfl, .inl (SqL.of hN), ?_⟩
    refine ⟨(by show 2 ≤ sizeLine; decide), fun r nr => Res.pure res hP (s1.trans (same_new nr)) (s1.free nr) ?_⟩
    rw [upd_same, hV.1]
    rfl
theorem ok_tell_entries (F : Fun K "tell_entries" "Piece.tell_entries" s_Piece_tell_entries f fd) (T : Txt K mg A) (C_Entry_numbers_told : Mt P w K mg base A.Entry "numbers_told" 1 ["self"] (spEnTold A)) :
    FnOk P w K mg base CX0 2 f fd ["self"] (spC0 A K .entries) := by
  refine F.ok sc_Piece_tell_entries (fun vs H Q E h => ?_) (fun cdv A' outer s H vs Q E hr h => ?_)
  · obtain ⟨p, rfl, _⟩ := h
    rfl
  · obtain ⟨p, rfl, Z, s, hP, hZ, res⟩ := h
    obtain ⟨dx, vS, vC, N, q, c, d, h⟩ := id hP
    refine ⟨_, (pss_cons (ps_set (i := 1) sc_Piece_tell_entries.nd rfl (Or.inl rfl) (pe_lst (pa_cons (pe_callB call_len_seq (by rfl) T.b_len (by decide +kernel) (pa_cons (pe_fld (pv 0) rfl) pa_nil)) pa_nil)))
      (pss_cons (ps_for PassesOwn.never rfl (pi_list (pe_fld (pv 0) rfl)) (pg_name (i := 2) sc_Piece_tell_entries.nd rfl (Or.inl rfl)) (pss_one (ps_expr (pe_bm PySem.F.plainAttrs_list PySem.F.slot_list_extend PySem.F.type_list_extend mt_extend (pv 1) (pa_cons (pe_mt0 (pv 2) T.cl_Entry C_Entry_numbers_told (hr.mono (by decide))) pa_nil)))))
      (pss_one (ps_ret (pv 1))))), ?_⟩
    obtain ⟨vs, hN, hV⟩ := h.ents
    refine ⟨_, rfl, p, A.Piece, dx, _, _, rfl, h.obj, T.cl_Piece, T.n_Piece_entries, piF_entries .., N, vs, rfl, .inl (SqL.of hN), ?_⟩
    refine ⟨(by show 1 ≤ sizeLine; decide), fun o no => ?_⟩
    have so := same_new (o := HO.lst [V.int (vs.length : Int)]) no
    have h1 := h.same so
    refine ⟨_, rfl, p, A.Piece, dx, _, _, rfl, h1.obj, T.cl_Piece, T.n_Piece_entries, piF_entries .., N, rfl, ⟨_, SqL.of (so _ _ hN)⟩, ?_⟩
    refine for_list (K := K) (a := N) (xs := vs) (fun i σ H' => ∃ v2 : Option V, σ = [some (.ref p), some (.ref o), v2] ∧ Same H H' ∧ H' o = some (.lst (((s.entries.length : Int) :: (s.entries.take i).flatMap toldE).map V.int)) ∧ ((s.entries.take i).flatMap toldE).length = 4 * i)
      ⟨none, rfl, so, by rw [upd_same, hV.1]; rfl, rfl⟩ (fun i σ H' _ ⟨_, _, s5, _⟩ => SqL.of (s5 _ _ hN)) ?_ ?_
    · rintro i x σ H2 hx ⟨v2, rfl, s2, hO, hlen⟩
      obtain ⟨g, hg, hG0⟩ := hV.2 i x hx
      have hG := hG0.same s2
      obtain ⟨z, dz, pz, rfl, hz, _, _⟩ := id hG
      have hi : i < s.entries.length := (List.getElem?_eq_some_iff.mp hg).1
      have h8 := h.ok.few
      refine ⟨_, rfl, .inl ⟨rfl, _, SqL.of hO⟩, ?_⟩
      refine ⟨_, rfl, z, dz, _, rfl, hz, enF_told .., ?_⟩
      refine ⟨_, _, s, g, rfl, hG, fun r nr => ?_⟩
      have nro : o ≠ r := ne_of_none hO nr
      refine ⟨o, r, _, _, rfl, rfl, Eq.trans (upd_ne nro) hO, upd_same, ?_, ?_⟩
      · rw [List.length_map, List.length_map, List.length_cons, hlen]
        show 4 * i + 1 + 4 ≤ sizeLine
        exact Nat.le_of_lt (small1000 (by omega))
      · have e : (s.entries.take (i + 1)).flatMap toldE = (s.entries.take i).flatMap toldE ++ toldE g := by
          rw [take_more hg, List.flatMap_append, List.flatMap_singleton]
        refine ⟨some (.ref z), rfl, same_mut (s2.trans (same_new nr)) no, ?_, ?_⟩
        · rw [upd_same, e, ← List.map_append]
          rfl
        · rw [e, List.length_append, hlen]
          show 4 * i + 4 = _
          omega
    · rintro σ H2 ⟨v2, rfl, s2, hO, _⟩
      rw [hV.1, List.take_length] at hO
      exact ⟨_, rfl, Res.pure res hP s2 no hO⟩
/-- bad -/
def spC2 (A : At) (K : PySem.W.Frag) (c : Int → Int → Cp08.Call) : Sp := fun vs H Q _ => ∃ p i j, vs = [.ref p, .int i, .int j] ∧ ResC A K p (c i j) H Q
theorem ok_tell_bad (F : Fun K "tell_bad" "Piece.tell_bad" s_Piece_tell_bad f fd) (T : Txt K mg A) (C_Piece_is_entry : Mt P w K mg base A.Piece "is_entry" 1 ["self", "number"] (spIsEntry A K)) (C_bad_meetings : Fn P w K mg base "bad_meetings" 5 ["first", "second", "prices"] (spBad A K)) :
    FnOk P w K mg base CX0 6 f fd ["self", "i", "j"] (spC2 A K .bad) := by
  refine F.ok sc_Piece_tell_bad (fun vs H Q E h => ?_) (fun cdv A' outer s H vs Q E hr h => ?_)
  · obtain ⟨p, i, j, rfl, _⟩ := h
    rfl
  · obtain ⟨p, i, j, rfl, Z, s, hP, hZ, res⟩ := h
    obtain ⟨dx, vS, vC, N, q, c, d, h⟩ := id hP
    refine ⟨_, (pss_cons (ps_if (PW.pt (pw_or (pt_cmpR op_eq (pv 1) (pv 2) (nomark _)) (pw_or (pt_not (pt_val (pe_mt (pv 0) T.cl_Piece C_Piece_is_entry (hr.mono (by decide)) (pa_cons (pv 1) pa_nil)))) (pw_or1 (pt_not (pt_val (pe_mt (pv 0) T.cl_Piece C_Piece_is_entry (hr.mono (by decide)) (pa_cons (pv 2) pa_nil)))))))) (pss_one (ps_ret (pe_lst (pa_cons (pe_cst (by rfl) T.c_OUT_OF_RANGE) pa_nil)))) pss_nil)
      (pss_cons (ps_set (i := 3) sc_Piece_tell_bad.nd rfl (Or.inl rfl) (pe_fn C_bad_meetings (hr.mono (by decide)) (by rfl) (pa_cons (pe_ix ix_list (pe_fld (pv 0) rfl) (pv 1) (fun _ _ => rfl)) (pa_cons (pe_ix ix_list (pe_fld (pv 0) rfl) (pv 2) (fun _ _ => rfl)) (pa_cons (pe_fld (pv 0) rfl) pa_nil)))))
      (pss_cons (ps_set (i := 4) sc_Piece_tell_bad.nd rfl (Or.inl rfl) (pe_lst (pa_cons (pe_callB call_len_seq (by rfl) T.b_len (by decide +kernel) (pa_cons (pv 3) pa_nil)) pa_nil)))
      (pss_cons (ps_for PassesOwn.never rfl (pi_list (pv 3)) (pg_tup rfl (pgs_cons (pg_name (i := 5) sc_Piece_tell_bad.nd rfl (Or.inl rfl)) (pgs_cons (pg_name (i := 6) sc_Piece_tell_bad.nd rfl (Or.inl rfl)) pgs_nil))) (pss_one (ps_expr (pe_bm PySem.F.plainAttrs_list PySem.F.slot_list_extend PySem.F.type_list_extend mt_extend (pv 4) (pa_cons (pe_lst (pa_cons (pv 5) (pa_cons (pv 6) pa_nil))) pa_nil)))))
      (pss_one (ps_ret (pv 4))))))), ?_⟩
    have nI : (piF s.tonic vS vC N q).lookup ("is_entry" : Str) = none := piF_no _ _ _ _ _ (by decide +kernel)
    refine a_or (a := decide (i = j)) (b := !Cp08.isIn 0 ((s.entries.length : Int) - 1) i || !Cp08.isIn 0 ((s.entries.length : Int) - 1) j) (a_test (v_eqI (val_var rfl) (val_var rfl))) (fun _ =>
      a_or (a_not (a_val fun Q k => ⟨_, rfl, p, dx, _, rfl, h.obj, nI, _, rfl, Z, p, s, i, rfl, hP, k⟩)) fun _ => a_not (a_val fun Q k => ⟨_, rfl, p, dx, _, rfl, h.obj, nI, _, rfl, Z, p, s, j, rfl, hP, k⟩)) _ (if_b (fun b => ?_) fun b => ?_)
    · have b' : (!Cp08.isIn 0 ((s.entries.length : Int) - 1) i || (!Cp08.isIn 0 ((s.entries.length : Int) - 1) j || i == j)) = true := by
        rw [← b]
        have : (i == j) = decide (i = j) := by
          rw [Bool.eq_iff_iff]
          simp
        rw [this]
        cases Cp08.isIn 0 ((s.entries.length : Int) - 1) i <;> cases Cp08.isIn 0 ((s.entries.length : Int) - 1) j <;> cases decide (i = j) <;> rfl
      have e : Cp08.step s (.bad i j) = (s, Cp08.just (-1)) := by
        unfold Cp08.step
        dsimp only
        rw [if_pos b']
      rw [e] at res
      exact ⟨(by show 1 ≤ sizeLine; decide), fun r nr => Res.refuse res hP (.refl H) nr⟩
    · simp only [Bool.or_eq_false_iff, Bool.not_eq_false', decide_eq_false_iff_not] at b
      obtain ⟨ne, bi, bj⟩ := b
      have b' : (!Cp08.isIn 0 ((s.entries.length : Int) - 1) i || (!Cp08.isIn 0 ((s.entries.length : Int) - 1) j || i == j)) = false := by
        rw [bi, bj]
        simpa using ne
      have hb : ∀ {k : Int}, Cp08.isIn 0 ((s.entries.length : Int) - 1) k = true → 0 ≤ k ∧ k.toNat < s.entries.length := fun hk => by
        unfold Cp08.isIn at hk
        simp at hk
        omega
      obtain ⟨i0, i1⟩ := hb bi
      obtain ⟨j0, j1⟩ := hb bj
      have he : s.entries[i.toNat]? = some s.entries[i.toNat] := List.getElem?_eq_getElem i1
      have hg : s.entries[j.toNat]? = some s.entries[j.toNat] := List.getElem?_eq_getElem j1
      generalize s.entries[i.toNat] = e at he
      generalize s.entries[j.toNat] = g at hg
      have eS : Cp08.step s (.bad i j) = (s, ⟨((Cp07.badness s.table (Cp08.voiceOf s e) (Cp08.voiceOf s g)).length : Int), (Cp07.badness s.table (Cp08.voiceOf s e) (Cp08.voiceOf s g)).flatMap fun (x : Nat × Nat) => [(x.1 : Int), (x.2 : Int)]⟩) := bad_at b' ne he hg
      rw [eS] at res
      obtain ⟨vs, hN, hV⟩ := h.ents
      obtain ⟨v, hv, hE⟩ := hV.get he
      obtain ⟨u, hu, hG⟩ := hV.get hg
      have ei : ((i.toNat : Nat) : Int) = i := Int.toNat_of_nonneg i0
      have ej : ((j.toNat : Nat) : Int) = j := Int.toNat_of_nonneg j0
      refine ⟨_, rfl, p, A.Piece, dx, _, _, rfl, h.obj, T.cl_Piece, T.n_Piece_entries, piF_entries .., _, rfl, N, vs, i, v, rfl, rfl, SqL.of hN, ?_, ?_⟩
      · rw [← ei]
        exact atI_nat hv
      refine ⟨_, rfl, p, A.Piece, dx, _, _, rfl, h.obj, T.cl_Piece, T.n_Piece_entries, piF_entries .., _, rfl, N, vs, j, u, rfl, rfl, SqL.of hN, ?_, ?_⟩
      · rw [← ej]
        exact atI_nat hu
      refine ⟨_, rfl, p, A.Piece, dx, _, _, rfl, h.obj, T.cl_Piece, T.n_Piece_prices, piF_prices .., ?_⟩
      refine ⟨v, u, q, c, d, _, _, s, e, g, rfl, hE, hG, h.prc, h.ok.short, fun H1 z s1 nz hL hlen => ?_⟩
      generalize Cp07.badness s.table (Cp08.voiceOf s e) (Cp08.voiceOf s g) = bl at hL hlen res
      obtain ⟨ws, hw, hW⟩ := hL
      refine ⟨_, rfl, z, ws, rfl, .inl (SqL.of hw), (by show 1 ≤ sizeLine; decide), fun o no => ?_⟩
      have so := same_new (o := HO.lst [V.int (ws.length : Int)]) no
      refine ⟨_, rfl, z, rfl, ⟨_, SqL.of (so _ _ hw)⟩, ?_⟩
      refine for_list (K := K) (a := z) (xs := ws) (fun k σ H' => ∃ v5 v6 : Option V, σ = [some (.ref p), some (.int i), some (.int j), some (.ref z), some (.ref o), v5, v6] ∧ Same H1 H' ∧ H' o = some (.lst (((bl.length : Int) :: (bl.take k).flatMap fun (x : Nat × Nat) => [(x.1 : Int), (x.2 : Int)]).map V.int)) ∧ ((bl.take k).flatMap fun (x : Nat × Nat) => [(x.1 : Int), (x.2 : Int)]).length = 2 * k)
        ⟨none, none, rfl, so, by rw [upd_same, hW.1]; rfl, rfl⟩ (fun i σ H' _ ⟨_, _, _, s5, _⟩ => SqL.of (s5 _ _ hw)) ?_ ?_
      · rintro k x σ H2 hx ⟨v5, v6, rfl, s2, hO, hl⟩
        obtain ⟨y, hy, t, rfl, ht⟩ := hW.2 k x hx
        have hk : k < bl.length := (List.getElem?_eq_some_iff.mp hy).1
        refine ⟨t, _, rfl, SqT.of (s2 _ _ ht), rfl, _, _, rfl, _, _, rfl, rfl, ?_⟩
        refine ⟨_, rfl, .inl ⟨rfl, _, SqL.of hO⟩, ?_⟩
        refine ⟨_, rfl, _, rfl, (by show 2 ≤ sizeLine; decide), fun r nr => ?_⟩
        have nro : o ≠ r := ne_of_none hO nr
        refine ⟨o, r, _, _, rfl, rfl, Eq.trans (upd_ne nro) hO, upd_same, ?_, ?_⟩
        · rw [List.length_map, List.length_cons, hl]
          show 2 * k + 1 + 2 ≤ sizeLine
          exact Nat.le_of_lt (small1000 (by omega))
        · have e2 : ((bl.take (k + 1)).flatMap fun (x : Nat × Nat) => [(x.1 : Int), (x.2 : Int)]) = ((bl.take k).flatMap fun (x : Nat × Nat) => [(x.1 : Int), (x.2 : Int)]) ++ [(y.1 : Int), (y.2 : Int)] := by
            rw [take_more hy, List.flatMap_append, List.flatMap_singleton]
          refine ⟨_, _, rfl, same_mut (s2.trans (same_new nr)) no, ?_, ?_⟩
          · rw [upd_same, e2, ← List.cons_append, List.map_append]
            rfl
          · rw [e2, List.length_append, hl]
            show 2 * k + 2 = _
            omega
      · rintro σ H2 ⟨v5, v6, rfl, s2, hO, _⟩
        rw [hW.1, List.take_length] at hO
        exact ⟨_, rfl, Res.pure res hP (s1.trans s2) (s1.free no) hO⟩
end
end Fa

set_option Elab.async false
set_option linter.all false
set_option maxRecDepth 100000
set_option maxHeartbeats 4000000
namespace Fa
open PySem PySem.Spec PyProof.Rows L2
open Cp07 (Line Voice Table)
open Cp08 (Desk)
theorem mut_upd {Z : Addr → Prop} {H : Hp} {D : Addr} {xs ys : List V} (h : H D = some (.lst xs)) (hz : Z D) : Mut Z H (upd H D (.lst ys)) := fun b o hb c => by
  by_cases e : b = D
  · rcases c with c | c
    · rw [e] at c
      exact absurd hz c
    · rw [e, h] at hb
      exact absurd (Option.some.inj hb).symm (c xs)
  · rw [upd_ne e]
    exact hb
theorem first_at {c : Nat} : ∀ {l : List Nat}, c ∈ l → ∃ j : Nat, l[j]? = some c ∧ ∀ k x, k < j → l[k]? = some x → x ≠ c
  | [], h => by simp at h
  | y :: l, h => by
    by_cases e : y = c
    · exact ⟨0, by rw [e]; rfl, fun k x hk => by omega⟩
    · rcases List.mem_cons.mp h with h | h
      · exact absurd h.symm e
      · obtain ⟨j, h1, h2⟩ := first_at h
        refine ⟨j + 1, h1, fun k x hk hx => ?_⟩
        match k, hk, hx with
        | 0, _, hx =>
          have : y = x := Option.some.inj hx
          rw [← this]
          exact e
        | k + 1, hk, hx => exact h2 k x (by omega) hx
theorem costsAt_eq (s : Desk) (e : Ent) : costsAt s e = Cp08.octaves.map fun o => against s s.entries { e with oct := o } := by
  unfold costsAt
  exact List.map_congr_left fun o _ => added_eq s _
theorem range0 (k t v : Int) : rangeB k t 0 v = (!Cp08.isIn 0 3 k || (!Cp08.isIn 0 8192 t || !Cp08.isIn 0 3 v)) := by
  unfold rangeB
  have : Cp08.isIn (-4) 4 0 = true := rfl
  rw [this]
  rfl
section
variable {P : Program} {w : World} {K : PySem.W.Frag} {mg : Str → Option Value} {base : Heap} {A : At} {f : Addr} {fd : FuncData}
def spC3 (A : At) (K : PySem.W.Frag) (c : Int → Int → Int → Cp08.Call) : Sp := fun vs H Q _ => ∃ p i j k, vs = [.ref p, .int i, .int j, .int k] ∧ ResC A K p (c i j k) H Q
/-- an answer of one number that refV tells -/
theorem refV_cases (s : Desk) (k t o v : Int) : refV s k t o v = .non ∨ ∃ n, refV s k t o v = .int n := by
  unfold refV
  split
  · exact .inr ⟨_, rfl⟩
  · split
    · exact .inr ⟨_, rfl⟩
    · split
      · exact .inr ⟨_, rfl⟩
      · exact .inl rfl
theorem refV_non {s : Desk} {k t o v : Int} (h : refV s k t o v = .non) : rangeB k t o v = false ∧ missing s k = false ∧ s.entries.any (Cp08.clash s ⟨k.toNat, t.toNat, o, v.toNat⟩) = false := by
  unfold refV at h
  by_cases a : rangeB k t o v = true
  · rw [if_pos a] at h
    cases h
  · rw [if_neg a] at h
    by_cases b : missing s k = true
    · rw [if_pos b] at h
      cases h
    · rw [if_neg b] at h
      by_cases c : s.entries.any (Cp08.clash s ⟨k.toNat, t.toNat, o, v.toNat⟩) = true
      · rw [if_pos c] at h
        cases h
      · exact ⟨by simpa using a, by simpa using b, by simpa using c⟩
theorem best_refused {s : Desk} {k t v n : Int} (h : refV s k t 0 v = .int n) : Cp08.step s (.best k t v) = (s, Cp08.just n) := by
  unfold refV at h
  unfold Cp08.step
  dsimp only
  rw [← range0]
  by_cases a : rangeB k t 0 v = true
  · rw [if_pos a] at h ⊢
    cases h
    rfl
  · rw [if_neg a] at h ⊢
    unfold missing at h
    by_cases b : (s.subject.isEmpty || (decide (1 < k) && s.counter.isEmpty)) = true
    · rw [if_pos b] at h ⊢
      cases h
      rfl
    · rw [if_neg b] at h ⊢
      by_cases c : s.entries.any (Cp08.clash s ⟨k.toNat, t.toNat, 0, v.toNat⟩) = true
      · rw [if_pos c] at h ⊢
        cases h
        rfl
      · rw [if_neg c] at h
        cases h
theorem best_taken {s : Desk} {k t v : Int} (h : refV s k t 0 v = .non) : Cp08.step s (.best k t v) = (s, ⟨((Cp08.best s ⟨k.toNat, t.toNat, 0, v.toNat⟩).2 : Int), [(Cp08.best s ⟨k.toNat, t.toNat, 0, v.toNat⟩).1]⟩) := by
  obtain ⟨a, b, c⟩ := refV_non h
  unfold Cp08.step
  dsimp only
  unfold missing at b
  rw [← range0, if_neg (by rw [a]; exact Bool.false_ne_true), if_neg (by rw [b]; exact Bool.false_ne_true), if_neg (by rw [c]; exact Bool.false_ne_true)]
theorem ok_tell_best (F : Fun K "tell_best" "Piece.tell_best" s_Piece_tell_best f fd) (T : Txt K mg A) (C_Piece_entry_refusal : Mt P w K mg base A.Piece "entry_refusal" 6 ["self", "kind", "time", "octaves", "voice"] (spRefusal A K))
    (C_Piece_made_entry : Mt P w K mg base A.Piece "made_entry" 5 ["self", "kind", "time", "octaves", "voice"] (spMade A K)) (C_cost_against : Fn P w K mg base "cost_against" 6 ["entry", "others", "prices"] (spAgainst A K)) :
    FnOk P w K mg base CX0 7 f fd ["self", "kind", "time", "voice"] (spC3 A K .best) := by
  refine F.ok sc_Piece_tell_best (fun vs H Q E h => ?_) (fun cdv A' outer s H vs Q E hr h => ?_)
  · obtain ⟨p, i, j, k, rfl, _⟩ := h
    rfl
  · obtain ⟨p, k, t, v, rfl, Z, s, hP, hZ, res⟩ := h
    obtain ⟨dx, vS, vC, N, q, c, d, h⟩ := id hP
    refine ⟨_, (pss_cons (ps_set (i := 4) sc_Piece_tell_best.nd rfl (Or.inl rfl) (pe_mt (pv 0) T.cl_Piece C_Piece_entry_refusal (hr.mono (by decide)) (pa_cons (pv 1) (pa_cons (pv 2) (pa_cons pe_int (pa_cons (pv 3) pa_nil))))))
      (pss_cons (ps_if (pt_cmpR op_notN (pv 4) pe_non (nomark _)) (pss_one (ps_ret (pe_lst (pa_cons (pv 4) pa_nil)))) pss_nil)
      (pss_cons (ps_setLc (i := 5) (own := [("octaves", 8)]) (g := gName 8) (te := tMeth A.Piece "made_entry" (spMade A K) [] E0 (tVar 0) (tCons (tVar 1) (tCons (tVar 2) (tCons (tVar 8) (tCons (tVar 3) tNil))))) (tt := tYes) rfl sc_Piece_tell_best.nd rfl rfl (sw_true rfl rfl rfl (by decide +kernel)) (pi_tup (pe_gref (by rfl) T.t_OCTAVES_TO_CHOOSE)) (blkOk_by (own := [("octaves", 8)]) (N := N_Piece_tell_best) (sc := defScope s_Piece_tell_best) (by decide +kernel)) (fun _ _ _ _ _ => (pg_name (i := 8) sc_Piece_tell_best.nd rfl (Or.inl rfl))) (fun _ _ _ _ _ => pts_nil) (fun _ _ _ _ _ => (pe_mt (pv 0) T.cl_Piece C_Piece_made_entry (hr.mono (by decide)) (pa_cons (pv 1) (pa_cons (pv 2) (pa_cons (pv 8) (pa_cons (pv 3) pa_nil)))))))
      (pss_cons (ps_setLc (i := 6) (own := [("entry", 9)]) (g := gName 9) (te := tCall (spAgainst A K) [] E0 (tCons (tVar 9) (tCons (tFld K (tVar 0) "entries") (tCons (tFld K (tVar 0) "prices") tNil)))) (tt := tYes) rfl sc_Piece_tell_best.nd rfl rfl (sw_true rfl rfl rfl (by decide +kernel)) (pi_list (pv 5)) (blkOk_by (own := [("entry", 9)]) (N := N_Piece_tell_best) (sc := defScope s_Piece_tell_best) (by decide +kernel)) (fun _ _ _ _ _ => (pg_name (i := 9) sc_Piece_tell_best.nd rfl (Or.inl rfl))) (fun _ _ _ _ _ => pts_nil) (fun _ _ _ _ _ => (pe_fn C_cost_against (hr.mono (by decide)) (by rfl) (pa_cons (pv 9) (pa_cons (pe_fld (pv 0) rfl) (pa_cons (pe_fld (pv 0) rfl) pa_nil))))))
      (pss_cons (ps_set (i := 7) sc_Piece_tell_best.nd rfl (Or.inl rfl) (pe_callB (cr_min rfl) (by rfl) T.b_min (by decide +kernel) (pa_cons (pv 6) pa_nil)))
      (pss_one (ps_ret (pe_lst (pa_cons (pv 7) (pa_cons (pe_ix ix_tup (pe_gref (by rfl) T.t_OCTAVES_TO_CHOOSE) (pe_bm PySem.F.plainAttrs_list PySem.F.slot_list_index PySem.F.type_list_index mt_index (pv 6) (pa_cons (pv 7) pa_nil)) (fun _ _ => rfl)) pa_nil)))))))))), ?_⟩
    refine ⟨_, rfl, p, dx, _, rfl, h.obj, piF_no _ _ _ _ _ (by decide +kernel), _, rfl, _, rfl, _, rfl, Z, p, s, k, t, 0, v, rfl, hP, fun H1 s1 => ?_⟩
    rcases refV_cases s k t 0 v with er | ⟨n, er⟩
    · rw [best_taken er] at res
      obtain ⟨rB, mB, _⟩ := refV_non er
      obtain ⟨⟨k0, k3⟩, ⟨t0, t1⟩, _, v0, v3⟩ := range_ok rB
      have ke : ((k.toNat : Nat) : Int) = k := Int.toNat_of_nonneg k0
      have te : ((t.toNat : Nat) : Int) = t := Int.toNat_of_nonneg t0
      have ve : ((v.toNat : Nat) : Int) = v := Int.toNat_of_nonneg v0
      rw [er]
      refine ⟨_, rfl, rfl, _, rfl, ?_⟩
      have h1 := h.same s1
      generalize hen : (⟨k.toNat, t.toNat, 0, v.toNat⟩ : Ent) = en at res
      -- choices
      refine ⟨A.OCTAVES_TO_CHOOSE, rfl, ⟨_, T.w_OCTAVES_TO_CHOOSE _⟩, fun D nD => lc_tup (K := K) (a := A.OCTAVES_TO_CHOOSE) (xs := [0, -1, 1, -2, 2].map V.int) (fun i H' => Same H1 H' ∧ EnsAt A (fun a => a = D) s H' D ((Cp08.octaves.take i).map fun o => { en with oct := o }))
        ⟨same_new nD, [], upd_same, Rel.nil⟩ (fun i H' _ _ => T.w_OCTAVES_TO_CHOOSE _) ?_ ?_⟩
      · rintro i x H2 hx ⟨s2, acc, hD, hR⟩
        obtain ⟨o, ho, rfl⟩ := (Rel.ints [0, -1, 1, -2, 2]).2 i x hx
        have hoct : Cp08.octaves[i]? = some o := ho
        have hom : o ∈ ([0, -1, 1, -2, 2] : List Int) := List.mem_of_getElem? ho
        have hoo : -4 ≤ o ∧ o ≤ 4 := by
          simp at hom
          omega
        have h2 := h1.same s2
        refine ⟨rfl, ?_⟩
        refine ⟨_, rfl, p, dx, _, rfl, h2.obj, piF_no _ _ _ _ _ (by decide +kernel), _, rfl, _, rfl, _, rfl, _, rfl, ?_⟩
        refine ⟨Z, p, s, { en with oct := o }, ?_, hP.same (s1.trans s2), ?_, hoo.1, hoo.2, ?_, fun H3 ev s3 hE => ?_⟩
        · rw [← hen]
          show _ = [V.ref p, V.int ((k.toNat : Nat) : Int), V.int ((t.toNat : Nat) : Int), V.int o, V.int ((v.toNat : Nat) : Int)]
          rw [ke, te, ve]
          rfl
        · rw [← hen]
          show k.toNat ≤ 3
          omega
        · rw [← hen]
          show missing s ((k.toNat : Nat) : Int) = false
          rw [ke]
          exact mB
        · have hD3 := s3 _ _ hD
          have hi5 : i < Cp08.octaves.length := (List.getElem?_eq_some_iff.mp hoct).1
          refine ⟨acc, hD3, ?_, same_mut (s2.trans s3) nD, acc ++ [ev], upd_same, ?_⟩
          · rw [hR.1, List.length_map]
            exact small1000 (Nat.le_trans (List.length_take_le' ..) (by decide))
          · rw [take_more hoct, List.map_append]
            have mm : Mut (fun a => a = D) H3 (upd H3 D (.lst (acc ++ [ev]))) := mut_upd hD3 rfl
            refine (hR.imp fun _ _ q => (q.same s3).mut mm fun _ z => z).snoc ?_
            refine EnAt.mut mm (fun _ z => z) (hE.imp fun a z => ?_)
            rw [z, hD]
            exact fun e => by cases e
      · rintro H2 ⟨s2, ws, hD, hW⟩
        have h2 := h1.same s2
        have hW5 : ws.length = 5 := hW.1
        have eT : ([0, -1, 1, -2, 2].map V.int).length = 5 := rfl
        rw [eT] at hW
        have hW' : Rel (EnAt A (fun a => a = D) s H2) ws (Cp08.octaves.map fun o => { en with oct := o }) := hW
        -- costs
        refine ⟨_, rfl, D, rfl, ⟨_, SqL.of hD⟩, fun D2 nD2 => lc_list (K := K) (a := D) (xs := ws) (fun i H' => Same H2 H' ∧ H' D2 = some (.lst ((((costsAt s en).take i).map toI).map V.int)))
          ⟨same_new nD2, upd_same⟩ (fun i H' _ ⟨s5, _⟩ => SqL.of (s5 _ _ hD)) ?_ ?_⟩
        · rintro i x H3 hx ⟨s3, hD2⟩
          obtain ⟨g, hg, hG⟩ := hW'.2 i x hx
          have h3 := h2.same s3
          refine ⟨rfl, _, rfl, ?_⟩
          refine ⟨_, rfl, p, A.Piece, dx, _, _, rfl, h3.obj, T.cl_Piece, T.n_Piece_entries, piF_entries .., ?_⟩
          refine ⟨_, rfl, p, A.Piece, dx, _, _, rfl, h3.obj, T.cl_Piece, T.n_Piece_prices, piF_prices .., ?_⟩
          refine ⟨x, N, q, c, d, _, _, s, s.entries, g, rfl, hG.same s3, h3.ents, h3.prc, h.ok.short, h.ok.few, fun H4 s4 => ?_⟩
          have hc : (costsAt s en)[i]? = some (against s s.entries g) := by
            rw [costsAt_eq]
            rw [List.getElem?_map] at hg ⊢
            cases ho : Cp08.octaves[i]? with
            | none =>
              rw [ho] at hg
              cases hg
            | some o =>
              rw [ho] at hg
              have : { en with oct := o } = g := Option.some.inj hg
              rw [← this]
              rfl
          refine ⟨_, s4 _ _ hD2, ?_, same_mut (s3.trans s4) nD2, ?_⟩
          · rw [List.length_map, List.length_map]
            exact small1000 (Nat.le_trans (List.length_take_le' ..) (by rw [costsAt_eq, List.length_map]; decide))
          · rw [upd_same, take_more hc, List.map_append, List.map_append]
            rfl
        · rintro H3 ⟨s3, hD2⟩
          have e5 : (costsAt s en).take ws.length = costsAt s en := by
            rw [hW5]
            exact List.take_of_length_le (by rw [costsAt_eq, List.length_map]; decide)
          rw [e5] at hD2
          have hlen5 : (costsAt s en).length = 5 := by
            rw [costsAt_eq, List.length_map]
            rfl
          -- least = min(costs)
          refine ⟨_, rfl, D2, (costsAt s en).map toI, rfl, SqL.of hD2, ?_, fun m hm hle => ?_⟩
          · rw [List.length_map, hlen5]
            decide
          obtain ⟨m', hm', rfl⟩ := List.mem_map.mp hm
          obtain ⟨j, hj, hfirst⟩ := first_at hm'
          have hbest := best_of (s := s) (e := en) (m := m') (j := j) hj (fun c hc => by
            have := hle (toI c) (List.mem_map.mpr ⟨c, hc, rfl⟩)
            unfold toI at this
            omega) hfirst
          rw [hbest] at res
          have hjl : j < 5 := by
            have := (List.getElem?_eq_some_iff.mp hj).1
            omega
          refine ⟨_, rfl, _, rfl, .inl ⟨rfl, _, SqL.of hD2⟩, _, rfl, ?_⟩
          refine ⟨D2, _, .int (toI m'), j, .int (toI m'), rfl, rfl, SqL.of hD2, rfl, ?_, ?_, ?_, ?_, ?_⟩
          · rw [List.all_eq_true]
            intro y hy
            obtain ⟨z, _, rfl⟩ := List.mem_map.mp hy
            rfl
          · rw [List.getElem?_map, List.getElem?_map, hj]
            rfl
          · show (toI m' == toI m') = true
            exact beq_self_eq_true _
          · intro k z' hk hz'
            rw [List.getElem?_map, List.getElem?_map] at hz'
            cases hc : (costsAt s en)[k]? with
            | none =>
              rw [hc] at hz'
              cases hz'
            | some x =>
              rw [hc] at hz'
              have : V.int (toI x) = z' := Option.some.inj hz'
              rw [← this]
              show (toI x == toI m') = false
              have := hfirst k x hk hc
              unfold toI
              rw [beq_eq_false_iff_ne]
              omega
          · refine ⟨A.OCTAVES_TO_CHOOSE, _, _, .int (Cp08.octaves.getD j 0), rfl, rfl, T.w_OCTAVES_TO_CHOOSE _, ?_, ?_⟩
            · refine atI_nat ?_
              rw [List.getElem?_map]
              match j, hjl with
              | 0, _ => rfl
              | 1, _ => rfl
              | 2, _ => rfl
              | 3, _ => rfl
              | 4, _ => rfl
            · refine ⟨(by show 2 ≤ sizeLine; decide), fun r nr => ?_⟩
              have s14 := s1.trans (s2.trans s3)
              refine Res.pure res hP (s14.trans (same_new nr)) (s14.free nr) ?_
              rw [upd_same]
              rfl
    · rw [best_refused er] at res
      rw [er]
      exact ⟨_, rfl, rfl, _, rfl, _, rfl, (by show 1 ≤ sizeLine; decide), fun r nr => Res.refuse res hP s1 nr⟩
end
end Fa

set_option Elab.async false
set_option linter.all false
set_option maxRecDepth 100000
set_option maxHeartbeats 4000000
namespace Fa
open PySem PySem.Spec PyProof.Rows L2
open Cp07 (Line Voice Table)
open Cp08 (Desk)
/-! ### prices -/
theorem take15 {ns : List Int} (h : ns.length = 16) : ns.take 15 = (ns.take 7 ++ (ns.drop 7).take 7) ++ [ns.getD 14 0] := by
  match ns, h with
  | [a0, a1, a2, a3, a4, a5, a6, a7, a8, a9, a10, a11, a12, a13, a14, a15], _ => rfl
theorem good_iff {ns : List Int} (h : ns.length = 16) : goodPr ns = false ↔ ((ns.take 7).length ≠ 7 ∨ ((ns.drop 7).take 7).length ≠ 7 ∨ (ns.getD 14 0 :: (ns.take 7 ++ (ns.drop 7).take 7)).all (Cp08.isIn 0 100) = false ∨ Cp08.isIn 1 512 (ns.getD 15 0) = false) := by
  have l1 : (ns.take 7).length = 7 := by rw [List.length_take]; omega
  have l2 : ((ns.drop 7).take 7).length = 7 := by rw [List.length_take, List.length_drop]; omega
  unfold goodPr
  rw [take15 h, l1, l2, List.all_append, List.all_cons, List.all_cons, List.all_nil, Bool.and_true]
  show (Cp08.isIn 1 512 (ns.getD 15 0) && ((ns.take 7 ++ (ns.drop 7).take 7).all (Cp08.isIn 0 100) && Cp08.isIn 0 100 (ns.getD 14 0))) = false ↔ _
  cases Cp08.isIn 1 512 (ns.getD 15 0) <;> cases (ns.take 7 ++ (ns.drop 7).take 7).all (Cp08.isIn 0 100) <;> cases Cp08.isIn 0 100 (ns.getD 14 0) <;> simp
theorem good_pos {ns : List Int} (h : ns.length = 16) (g : goodPr ns = true) : (∀ n ∈ ns, 0 ≤ n) ∧ 1 ≤ ns.getD 15 0 := by
  unfold goodPr at g
  rw [Bool.and_eq_true] at g
  have h15 : 1 ≤ ns.getD 15 0 := by
    have := g.1
    unfold Cp07.isIn at this
    simp at this
    exact this.1
  refine ⟨fun n hn => ?_, h15⟩
  have e : ns = ns.take 15 ++ ns.drop 15 := (List.take_append_drop 15 ns).symm
  rw [e, List.mem_append] at hn
  rcases hn with hn | hn
  · have := List.all_eq_true.mp g.2 n hn
    unfold Cp07.isIn at this
    simp at this
    omega
  · have hi : 15 < ns.length := by omega
    rw [List.drop_eq_getElem_cons hi, List.drop_eq_nil_of_le (by omega), List.mem_singleton] at hn
    rw [List.getD_eq_getElem?_getD, List.getElem?_eq_getElem hi] at h15
    have h15' : 1 ≤ ns[15] := h15
    omega
/-! ### the list of entries changed -/
section
variable {A : At} {K : PySem.W.Frag} {Z : Addr → Prop} {H H' : Hp} {p dx N q c d : Addr} {s : Desk} {v vS vC : V} {l : Line}
theorem PcAt.ents_set {es : List Ent} (h : PcAt A K Z H p s dx vS vC N q c d) (k : Mut (fun a => a = N) H H') (hE : EnsAt A (fun a => Z a ∨ a = N) s H' N es) (few : es.length ≤ 8) : PcAt A K Z H' p { s with entries := es } dx vS vC N q c d := by
  have own : ∀ {v l}, OwnL Z N H v l → OwnL Z N H' v l := fun {v l} h => by
    rcases h with h | ⟨h0, a, h1, h2, h3, h4⟩
    · exact .inl h
    · exact .inr ⟨h0, a, h1, h2.mut k h4, h3, h4⟩
  exact ⟨k _ _ h.obj (.inr fun xs e => by cases e), own h.subj, own h.cnt, hE, h.prc.mut k h.zc.2 h.zd.2, h.zp, h.zN, h.zc, h.zd, ⟨h.ok.sl, h.ok.cl, h.ok.cs, few⟩⟩
end
section
variable {P : Program} {w : World} {K : PySem.W.Frag} {mg : Str → Option Value} {base : Heap} {A : At} {f : Addr} {fd : FuncData}
/-- a call with a list of numbers -/
def spCL (A : At) (K : PySem.W.Frag) (m n : Nat) (c : List Int → Cp08.Call) : Sp := fun vs H Q _ => ∃ p a ns, vs = [.ref p, .ref a] ∧ H a = some (.lst (ns.map V.int)) ∧ m ≤ ns.length ∧ ns.length ≤ n ∧ ResC A K p (c ns) H Q
def prCall (ns : List Int) : Cp08.Call := .prices (ns.take 7) ((ns.drop 7).take 7) (ns.getD 14 0) (ns.getD 15 0)
theorem ok_take_prices (F : Fun K "take_prices" "Piece.take_prices" s_Piece_take_prices f fd) (T : Txt K mg A) (C_are_prices : Fn P w K mg base "are_prices" 1 ["numbers"] spArePrices) (C_Prices_init : Nw P w K mg base "Prices" A.Prices 1 ["self", "numbers"] (spPrInit A K)) :
    FnOk P w K mg base CX0 3 f fd ["self", "numbers"] (spCL A K 16 16 prCall) := by
  refine F.ok sc_Piece_take_prices (fun vs H Q E h => ?_) (fun cdv A' outer s H vs Q E hr h => ?_)
  · obtain ⟨p, a, ns, rfl, _⟩ := h
    rfl
  · obtain ⟨p, a, ns, rfl, hA, hn1, hn2, Z, s, hP, hZ, res⟩ := h
    obtain ⟨dx, vS, vC, N, q, c, d, h⟩ := id hP
    refine ⟨_, (pss_cons (ps_if (pt_not (pt_val (pe_fn C_are_prices (hr.mono (by decide)) (by rfl) (pa_cons (pv 1) pa_nil)))) (pss_one (ps_ret (pe_lst (pa_cons (pe_cst (by rfl) T.c_OUT_OF_RANGE) pa_nil)))) pss_nil)
      (pss_cons (ps_fld (pv 0) (pe_new C_Prices_init (hr.mono (by decide)) (by rfl) (pa_cons (pv 1) pa_nil)) rfl)
      (pss_one (ps_ret (pe_lst (pa_cons pe_int pa_nil)))))), ?_⟩
    have hn : ns.length = 16 := by omega
    refine ⟨_, rfl, a, ns, rfl, hA, hn, fun H1 s1 => ⟨_, rfl, ?_⟩⟩
    refine if_b (fun b => ?_) fun b => ?_
    · have g : goodPr ns = false := by simpa using b
      have e : Cp08.step s (prCall ns) = (s, Cp08.just (-1)) := by
        unfold Cp08.step prCall
        dsimp only
        rw [if_pos ((good_iff hn).mp g)]
      rw [e] at res
      exact ⟨(by show 1 ≤ sizeLine; decide), fun r nr => Res.refuse res hP s1 nr⟩
    · have g : goodPr ns = true := by simpa using b
      have e : Cp08.step s (prCall ns) = ({ s with table := tabOf ns }, Cp08.just 0) := by
        unfold Cp08.step prCall
        dsimp only
        rw [if_neg fun z => by rw [(good_iff hn).mpr z] at g; cases g]
        rfl
      rw [e] at res
      obtain ⟨pos, beat⟩ := good_pos hn g
      have h1 := h.same s1
      refine ⟨_, rfl, ?_⟩
      intro x dz nx nd ne
      have sx : Same H1 (upd (upd H1 dz (.own x)) x (.ins A.Prices dz [])) := (same_new nd).trans (same_new (by rw [upd_ne (Ne.symm ne)]; exact nx))
      refine ⟨x, dz, a, ns, rfl, upd_same, .inl (SqL.of (sx _ _ (s1 _ _ hA))), hn, pos, beat, fun H2 a2 b2 na nb hPr k2 => ⟨rfl, ?_⟩⟩
      have s2 : Same H1 H2 := fun b o hb => k2 _ _ (sx _ _ hb) (ne_of_none hb nx)
      have h2 := h1.same s2
      refine ⟨_, rfl, p, A.Piece, dx, _, rfl, h2.obj, T.cl_Piece, T.n_Piece_prices, (by show 5 < 1000; decide), ?_⟩
      rw [piF_putP]
      generalize hH3 : upd H2 p _ = H3
      have hp3 : H3 p = some (.ins A.Piece dx (piF s.tonic vS vC N x)) := by
        rw [← hH3, upd_same]
      have x3 : Xc p H2 H3 := fun b o hb ne => by
        rw [← hH3, upd_ne ne]
        exact hb
      have fresh : ∀ {b o}, H1 b = some o → ∀ {z}, (upd (upd H1 dz (HO.own x)) x (.ins A.Prices dz [])) z = none → z ≠ b := fun {b o} hb {z} nz e => by
        rw [e, sx _ _ hb] at nz
        cases nz
      obtain ⟨ws, hN1, _⟩ := h1.ents
      have hZ1 : ∀ z, Z z → ∃ o, H1 z = some o := fun z hz => by
        obtain ⟨o, e⟩ := Option.ne_none_iff_exists'.mp (hZ z hz)
        exact ⟨o, s1 _ _ e⟩
      have zf : ∀ {z}, (upd (upd H1 dz (HO.own x)) x (.ins A.Prices dz [])) z = none → ¬ Z z := fun {z} nz hz => by
        obtain ⟨o, e⟩ := hZ1 z hz
        exact fresh e nz rfl
      have pc : PcAt A K Z H3 p { s with table := tabOf ns } dx vS vC N x a2 b2 :=
        ⟨hp3, h2.subj.xc h2.obj x3, h2.cnt.xc h2.obj x3, h2.ents.xc h2.obj piF_is x3, hPr.xc h2.obj piF_is x3, h.zp, h.zN, ⟨zf na, fresh hN1 na⟩, ⟨zf nb, fresh hN1 nb⟩, ⟨h.ok.sl, h.ok.cl, h.ok.cs, h.ok.few⟩⟩
      refine ⟨(by show 1 ≤ sizeLine; decide), fun r nr => ?_⟩
      have sr := same_new (o := HO.lst [V.int 0]) nr
      refine res _ r ⟨_, _, _, _, _, _, _, pc.same sr⟩ (fun b o hb hz => sr _ _ (x3 _ _ (s2 _ _ (s1 _ _ hb)) fun e => h.zp (e ▸ hz))) ?_ upd_same
      by_cases e : r = p
      · rw [e, hp3] at nr
        cases nr
      · rw [← hH3, upd_ne e] at nr
        exact s1.free (s2.free nr)
/-- subject -/
def spSubject (A : At) (K : PySem.W.Frag) : Sp := fun vs H Q _ => ∃ p t a ns, vs = [.ref p, .int t, .ref a] ∧ H a = some (.lst (ns.map V.int)) ∧ ns.length ≤ 60 ∧ ResC A K p (.subject t ns) H Q
theorem ok_take_subject (F : Fun K "take_subject" "Piece.take_subject" s_Piece_take_subject f fd) (T : Txt K mg A) (C_is_step : Fn P w K mg base "is_step" 1 ["number"] (spIn 0 69)) (C_read_events : Fn P w K mg base "read_events" 3 ["numbers"] spReadEvents)
    (C_line_length : Fn P w K mg base "line_length" 1 ["events"] spLength) (C_head_size : Fn P w K mg base "head_size" 2 ["events", "tonic"] spHead) : FnOk P w K mg base CX0 4 f fd ["self", "tonic", "numbers"] (spSubject A K) := by
  refine F.ok sc_Piece_take_subject (fun vs H Q E h => ?_) (fun cdv A' outer s H vs Q E hr h => ?_)
  · obtain ⟨p, t, a, ns, rfl, _⟩ := h
    rfl
  · obtain ⟨p, t, a, ns, rfl, hA, hn, Z, s, hP, hZ, res⟩ := h
    obtain ⟨dx, vS, vC, N, q, c, d, h⟩ := id hP
    refine ⟨_, (pss_cons (ps_if (pt_not (pt_val (pe_fn C_is_step (hr.mono (by decide)) (by rfl) (pa_cons (pv 1) pa_nil)))) (pss_one (ps_ret (pe_lst (pa_cons (pe_cst (by rfl) T.c_OUT_OF_RANGE) pa_nil)))) pss_nil)
      (pss_cons (ps_set (i := 3) sc_Piece_take_subject.nd rfl (Or.inl rfl) (pe_fn C_read_events (hr.mono (by decide)) (by rfl) (pa_cons (pv 2) pa_nil)))
      (pss_cons (ps_if (pt_cmpR op_isN (pv 3) pe_non (nomark _)) (pss_one (ps_ret (pe_lst (pa_cons (pe_cst (by rfl) T.c_NO_LIST_OF_EVENTS) pa_nil)))) pss_nil)
      (pss_cons (ps_if (pt_not (pt_chain op_le op_le pe_int (pe_callB call_len_seq (by rfl) T.b_len (by decide +kernel) (pa_cons (pv 3) pa_nil)) (pe_cst (by rfl) T.c_MOST_EVENTS))) (pss_one (ps_ret (pe_lst (pa_cons (pe_cst (by rfl) T.c_WRONG_COUNT) pa_nil)))) pss_nil)
      (pss_cons (ps_fld (pv 0) (pv 1) rfl)
      (pss_cons (ps_fld (pv 0) (pv 3) rfl)
      (pss_cons (ps_fld (pv 0) pe_non rfl)
      (pss_cons (ps_fld (pv 0) (pe_lst pa_nil) rfl)
      (pss_one (ps_ret (pe_lst (pa_cons (pe_callB call_len_seq (by rfl) T.b_len (by decide +kernel) (pa_cons (pv 3) pa_nil)) (pa_cons (pe_fn C_line_length (hr.mono (by decide)) (by rfl) (pa_cons (pv 3) pa_nil)) (pa_cons (pe_fn C_head_size (hr.mono (by decide)) (by rfl) (pa_cons (pv 3) (pa_cons (pv 1) pa_nil))) pa_nil)))))))))))))), ?_⟩
    refine s_qif (a_not (a_val (v_call1 (v := .bl (Cp07.isIn 0 69 t)) (val_var rfl) fun Q q => ⟨_, rfl, q⟩))) (if_b (fun b => ?_) fun b => ?_)
    · have b' : (!Cp08.isIn 0 69 t) = true := b
      have e : Cp08.step s (.subject t ns) = (s, Cp08.just (-1)) := by
        unfold Cp08.step
        dsimp only
        rw [if_pos b']
      rw [e] at res
      exact ⟨(by show 1 ≤ sizeLine; decide), fun r nr => Res.refuse res hP (.refl H) nr⟩
    · have b' : (!Cp08.isIn 0 69 t) = false := b
      refine ⟨_, rfl, a, ns, rfl, hA, hn, fun eN H1 s1 => ?_, fun l eL fit H1 g s1 ng hG => ?_⟩
      · have e : Cp08.step s (.subject t ns) = (s, Cp08.just (-2)) := by
          unfold Cp08.step
          dsimp only
          rw [if_neg (by rw [b']; exact Bool.false_ne_true), eN]
        rw [e] at res
        exact ⟨_, rfl, rfl, _, rfl, (by show 1 ≤ sizeLine; decide), fun r nr => Res.refuse res hP s1 nr⟩
      · refine ⟨_, rfl, rfl, _, rfl, if_b (fun c => absurd (of_decide_eq_true c) fun z => by cases z) fun _ => ?_⟩
        obtain ⟨ws, hw, hW⟩ := id hG
        refine s_qif (a_not (a_test (v_chain val_c (v_len (val_var rfl) (SqL.of hw)) val_c))) ?_
        rw [hW.1]
        refine if_b (fun b2 => ?_) fun b2 => ?_
        · have c2 : (l.isEmpty || decide (Cp08.EVENTS < l.length)) = true := by
            unfold Cp07.isIn at b2
            simp at b2
            cases l with
            | nil => rfl
            | cons x l =>
              have h1 : 16 < (x :: l).length := by
                have := b2
                rw [List.length_cons] at this ⊢
                omega
              rw [Bool.or_eq_true]
              exact .inr (decide_eq_true h1)
          have e : Cp08.step s (.subject t ns) = (s, Cp08.just (-5)) := by
            unfold Cp08.step
            dsimp only
            rw [if_neg (by rw [b']; exact Bool.false_ne_true), eL]
            dsimp only
            rw [if_pos c2]
          rw [e] at res
          exact ⟨(by show 1 ≤ sizeLine; decide), fun r nr => Res.refuse res hP s1 nr⟩
        · have b3 : 1 ≤ l.length ∧ l.length ≤ 16 := by
            unfold Cp07.isIn at b2
            simp at b2
            omega
          have c2 : (l.isEmpty || decide (Cp08.EVENTS < l.length)) = false := by
            rw [Bool.or_eq_false_iff]
            constructor
            · cases l with
              | nil => simp at b3
              | cons x l => rfl
            · exact decide_eq_false (by show ¬ 16 < l.length; omega)
          have e : Cp08.step s (.subject t ns) = ({ s with tonic := t, subject := l, counter := [], entries := [] }, ⟨(l.length : Int), [(Cp07.length l : Int), (Cp08.headOf t l : Int)]⟩) := by
            unfold Cp08.step
            dsimp only
            rw [if_neg (by rw [b']; exact Bool.false_ne_true), eL]
            dsimp only
            rw [if_neg (by rw [c2]; exact Bool.false_ne_true)]
          rw [e] at res
          have h1 := h.same s1
          have npg : p ≠ g := ne_of_none h.obj ng
          -- the stores
          refine ⟨_, rfl, _, rfl, p, A.Piece, dx, _, rfl, h1.obj, T.cl_Piece, T.n_Piece_tonic, (by show 5 < 1000; decide), ?_⟩
          rw [piF_putT]
          refine ⟨_, rfl, _, rfl, p, A.Piece, dx, _, rfl, upd_same, T.cl_Piece, T.n_Piece_subject, (by show 5 < 1000; decide), ?_⟩
          rw [piF_putS]
          refine ⟨_, rfl, p, A.Piece, dx, _, rfl, upd_same, T.cl_Piece, T.n_Piece_counter, (by show 5 < 1000; decide), ?_⟩
          rw [piF_putC]
          generalize hH2 : upd (upd (upd H1 p _) p _) p _ = H2
          have hp2 : H2 p = some (.ins A.Piece dx (piF t (.ref g) .non N q)) := by
            rw [← hH2, upd_same]
          have x2 : Xc p H1 H2 := fun b o hb ne => by
            rw [← hH2, upd_ne ne, upd_ne ne, upd_ne ne]
            exact hb
          have n2 : ∀ b, H2 b = none → H b = none := fun b hb => by
            by_cases e : b = p
            · rw [e, hp2] at hb
              cases hb
            · rw [← hH2, upd_ne e, upd_ne e, upd_ne e] at hb
              exact s1.free hb
          refine ⟨Nat.zero_le _, fun M nM => ?_⟩
          have sM := same_new (o := HO.lst []) nM
          refine ⟨_, rfl, p, A.Piece, dx, _, rfl, sM _ _ hp2, T.cl_Piece, T.n_Piece_entries, (by show 5 < 1000; decide), ?_⟩
          rw [piF_putE]
          have npM : p ≠ M := ne_of_none hp2 nM
          generalize hH3 : upd (upd H2 M (HO.lst [])) p _ = H3
          have hp3 : H3 p = some (.ins A.Piece dx (piF t (.ref g) .non M q)) := by
            rw [← hH3, upd_same]
          have hM3 : H3 M = some (.lst []) := by
            rw [← hH3, upd_ne npM.symm, upd_same]
          have x3 : Xc p H1 H3 := fun b o hb ne => by
            rw [← hH3, upd_ne ne]
            exact sM _ _ (x2 _ _ hb ne)
          have tr : ∀ {z o}, H1 z = some o → z ≠ p → z ≠ M := fun {z o} hz ne e => by
            rw [← e, x2 _ _ hz ne] at nM
            cases nM
          have n3 : ∀ b, H3 b = none → H b = none := fun b hb => by
            by_cases e : b = p
            · rw [e, hp3] at hb
              cases hb
            · rw [← hH3, upd_ne e] at hb
              exact n2 _ (sM.free hb)
          have zf : ∀ {z}, H z = none → ¬ Z z := fun {z} nz hz => hZ z hz nz
          have hG3 : LineAt H3 g l := hG.xc h1.obj x3
          have nlne : l ≠ [] := fun e => by
            rw [e] at b3
            simp at b3
          have sq : ∀ {z : Addr} {ms : List Int}, SeqH H1 z ms → z ≠ p ∧ z ≠ M := fun {z ms} hz => by
            rcases hz with hz | hz
            · have ne : z ≠ p := fun e => by rw [e, h1.obj] at hz; cases hz
              exact ⟨ne, tr hz ne⟩
            · have ne : z ≠ p := fun e => by rw [e, h1.obj] at hz; cases hz
              exact ⟨ne, tr hz ne⟩
          have pc : PcAt A K Z H3 p { s with tonic := t, subject := l, counter := [], entries := [] } dx (.ref g) .non M q c d :=
            ⟨hp3, .inr ⟨nlne, g, rfl, hG3, zf ng, tr hw npg.symm⟩, .inl ⟨rfl, rfl⟩, ⟨[], hM3, Rel.nil⟩, h1.prc.xc h1.obj piF_is x3, h.zp, zf (n2 _ nM), ⟨h.zc.1, (sq h1.prc.on).2⟩, ⟨h.zd.1, (sq h1.prc.off).2⟩, ⟨b3.2, Nat.zero_le _, fun e => absurd rfl e, Nat.zero_le _⟩⟩
          -- return [len(events), line_length(events), head_size(events, tonic)]
          obtain ⟨ws3, hw3, hW3⟩ := id hG3
          refine ⟨_, rfl, g, ws3, rfl, .inl (SqL.of hw3), _, rfl, g, l, rfl, hG3, b3.2, fun H4 s4 => ?_⟩
          refine ⟨_, rfl, _, rfl, g, l, t, rfl, hG3.same s4, fun H5 s5 => ?_⟩
          have s35 := s4.trans s5
          refine ⟨(by show 3 ≤ sizeLine; decide), fun r nr => ?_⟩
          have sr := s35.trans (same_new (o := HO.lst [V.int (ws3.length : Int), V.int (Cp07.length l : Int), V.int (Cp08.headOf t l : Int)]) nr)
          refine res _ r ⟨_, _, _, _, _, _, _, pc.same sr⟩ (fun b o hb hz => sr _ _ (x3 _ _ (s1 _ _ hb) fun e => h.zp (e ▸ hz))) (n3 _ (s35.free nr)) ?_
          rw [upd_same, hW3.1]
          rfl
end
end Fa

set_option Elab.async false
set_option linter.all false
set_option maxRecDepth 100000
set_option maxHeartbeats 4000000
namespace Fa
open PySem PySem.Spec PyProof.Rows L2
open Cp07 (Line Voice Table)
open Cp08 (Desk)
theorem enter_refused {s : Desk} {k t o v n : Int} (h : refV s k t o v = .int n) : Cp08.step s (.enter k t o v) = (s, Cp08.just n) := by
  unfold refV rangeB at h
  unfold Cp08.step
  dsimp only
  by_cases a : (!Cp08.isIn 0 3 k || (!Cp08.isIn 0 8192 t || (!Cp08.isIn (-4) 4 o || !Cp08.isIn 0 3 v))) = true
  · rw [if_pos a] at h ⊢
    cases h
    rfl
  · rw [if_neg a] at h ⊢
    unfold missing at h
    by_cases b : (s.subject.isEmpty || (decide (1 < k) && s.counter.isEmpty)) = true
    · rw [if_pos b] at h ⊢
      cases h
      rfl
    · rw [if_neg b] at h ⊢
      by_cases c : s.entries.any (Cp08.clash s ⟨k.toNat, t.toNat, o, v.toNat⟩) = true
      · rw [if_pos c] at h ⊢
        cases h
        rfl
      · rw [if_neg c] at h
        cases h
theorem enter_taken {s : Desk} {k t o v : Int} (h : refV s k t o v = .non) : Cp08.step s (.enter k t o v) = if Cp08.ENTRIES ≤ s.entries.length then (s, Cp08.just (-5)) else
    ({ s with entries := s.entries ++ [⟨k.toNat, t.toNat, o, v.toNat⟩] }, ⟨(s.entries.length + 1 : Nat), [(Cp08.added s ⟨k.toNat, t.toNat, o, v.toNat⟩ : Int)]⟩) := by
  obtain ⟨a, b, c⟩ := refV_non h
  unfold Cp08.step
  dsimp only
  unfold missing at b
  unfold rangeB at a
  rw [if_neg (by rw [a]; exact Bool.false_ne_true), if_neg (by rw [b]; exact Bool.false_ne_true), if_neg (by rw [c]; exact Bool.false_ne_true)]
section
variable {P : Program} {w : World} {K : PySem.W.Frag} {mg : Str → Option Value} {base : Heap} {A : At} {f : Addr} {fd : FuncData}
theorem ok_take_counter (F : Fun K "take_counter" "Piece.take_counter" s_Piece_take_counter f fd) (T : Txt K mg A) (C_read_events : Fn P w K mg base "read_events" 3 ["numbers"] spReadEvents)
    (C_line_length : Fn P w K mg base "line_length" 1 ["events"] spLength) (C_Piece_cost_lowered : Mt P w K mg base A.Piece "cost_lowered" 6 ["self", "steps"] (spCostLow A K)) : FnOk P w K mg base CX0 7 f fd ["self", "numbers"] (spCL A K 0 60 .counter) := by
  refine F.ok sc_Piece_take_counter (fun vs H Q E h => ?_) (fun cdv A' outer s H vs Q E hr h => ?_)
  · obtain ⟨p, a, ns, rfl, _⟩ := h
    rfl
  · obtain ⟨p, a, ns, rfl, hA, _, hn, Z, s, hP, hZ, res⟩ := h
    obtain ⟨dx, vS, vC, N, q, c, d, h⟩ := id hP
    refine ⟨_, (pss_cons (ps_set (i := 2) sc_Piece_take_counter.nd rfl (Or.inl rfl) (pe_fn C_read_events (hr.mono (by decide)) (by rfl) (pa_cons (pv 1) pa_nil)))
      (pss_cons (ps_if (pt_cmpR op_isN (pv 2) pe_non (nomark _)) (pss_one (ps_ret (pe_lst (pa_cons (pe_cst (by rfl) T.c_NO_LIST_OF_EVENTS) pa_nil)))) pss_nil)
      (pss_cons (ps_if (pt_cmpR op_isN (pe_fld (pv 0) rfl) pe_non (nomark _)) (pss_one (ps_ret (pe_lst (pa_cons (pe_cst (by rfl) T.c_NO_LINE) pa_nil)))) pss_nil)
      (pss_cons (ps_if (pt_not (pt_chain op_le op_le pe_int (pe_callB call_len_seq (by rfl) T.b_len (by decide +kernel) (pa_cons (pv 2) pa_nil)) (pe_cst (by rfl) T.c_MOST_EVENTS))) (pss_one (ps_ret (pe_lst (pa_cons (pe_cst (by rfl) T.c_WRONG_COUNT) pa_nil)))) pss_nil)
      (pss_cons (ps_fld (pv 0) (pv 2) rfl)
      (pss_cons (ps_fld (pv 0) (pe_lst pa_nil) rfl)
      (pss_one (ps_ret (pe_lst (pa_cons (pe_callB call_len_seq (by rfl) T.b_len (by decide +kernel) (pa_cons (pv 2) pa_nil)) (pa_cons (pe_fn C_line_length (hr.mono (by decide)) (by rfl) (pa_cons (pv 2) pa_nil)) (pa_cons (pe_mt (pv 0) T.cl_Piece C_Piece_cost_lowered (hr.mono (by decide)) (pa_cons pe_int pa_nil)) pa_nil)))))))))))), ?_⟩
    refine ⟨_, rfl, a, ns, rfl, hA, hn, fun eN H1 s1 => ?_, fun l eL fit H1 g s1 ng hG => ?_⟩
    · have e : Cp08.step s (.counter ns) = (s, Cp08.just (-2)) := by
        unfold Cp08.step
        dsimp only
        rw [eN]
      rw [e] at res
      exact ⟨_, rfl, rfl, _, rfl, (by show 1 ≤ sizeLine; decide), fun r nr => Res.refuse res hP s1 nr⟩
    · refine ⟨_, rfl, rfl, _, rfl, if_b (fun c => absurd (of_decide_eq_true c) fun z => by cases z) fun _ => ?_⟩
      obtain ⟨ws, hw, hW⟩ := id hG
      have h1 := h.same s1
      refine a_test (v_isN (val_fld (val_var rfl) h1.obj T.cl_Piece T.n_Piece_subject (piF_subject ..))) _ (if_b (fun b => ?_) fun b => ?_)
      · rw [h.subj.non] at b
        have e : Cp08.step s (.counter ns) = (s, Cp08.just (-7)) := by
          unfold Cp08.step
          dsimp only
          rw [eL]
          dsimp only
          rw [if_pos b]
        rw [e] at res
        exact ⟨(by show 1 ≤ sizeLine; decide), fun r nr => Res.refuse res hP s1 nr⟩
      · rw [h.subj.non] at b
        refine s_qif (a_not (a_test (v_chain val_c (v_len (val_var rfl) (SqL.of hw)) val_c))) ?_
        rw [hW.1]
        refine if_b (fun b2 => ?_) fun b2 => ?_
        · have c2 : (l.isEmpty || decide (Cp08.EVENTS < l.length)) = true := by
            unfold Cp07.isIn at b2
            simp at b2
            cases l with
            | nil => rfl
            | cons x l =>
              have h1 : 16 < (x :: l).length := by
                have := b2
                rw [List.length_cons] at this ⊢
                omega
              rw [Bool.or_eq_true]
              exact .inr (decide_eq_true h1)
          have e : Cp08.step s (.counter ns) = (s, Cp08.just (-5)) := by
            unfold Cp08.step
            dsimp only
            rw [eL]
            dsimp only
            rw [if_neg (by rw [b]; exact Bool.false_ne_true), if_pos c2]
          rw [e] at res
          exact ⟨(by show 1 ≤ sizeLine; decide), fun r nr => Res.refuse res hP s1 nr⟩
        · have b3 : 1 ≤ l.length ∧ l.length ≤ 16 := by
            unfold Cp07.isIn at b2
            simp at b2
            omega
          have eE : l.isEmpty = false := by
            cases l with
            | nil => simp at b3
            | cons x l => rfl
          have c2 : (l.isEmpty || decide (Cp08.EVENTS < l.length)) = false := by
            rw [Bool.or_eq_false_iff]
            exact ⟨eE, decide_eq_false (by show ¬ 16 < l.length; omega)⟩
          have e : Cp08.step s (.counter ns) = ({ s with counter := l, entries := [] }, ⟨(l.length : Int), [(Cp07.length l : Int), (Cp07.cost s.table (0, l) (0, s.subject) : Int)]⟩) := by
            unfold Cp08.step
            dsimp only
            rw [eL]
            dsimp only
            rw [if_neg (by rw [b]; exact Bool.false_ne_true), if_neg (by rw [c2]; exact Bool.false_ne_true)]
          rw [e] at res
          have npg : p ≠ g := ne_of_none h.obj ng
          -- the stores
          refine ⟨_, rfl, _, rfl, p, A.Piece, dx, _, rfl, h1.obj, T.cl_Piece, T.n_Piece_counter, (by show 5 < 1000; decide), ?_⟩
          rw [piF_putC]
          generalize hH2 : upd H1 p _ = H2
          have hp2 : H2 p = some (.ins A.Piece dx (piF s.tonic vS (.ref g) N q)) := by
            rw [← hH2, upd_same]
          have x2 : Xc p H1 H2 := fun b o hb ne => by
            rw [← hH2, upd_ne ne]
            exact hb
          have n2 : ∀ b, H2 b = none → H b = none := fun b hb => by
            by_cases e : b = p
            · rw [e, hp2] at hb
              cases hb
            · rw [← hH2, upd_ne e] at hb
              exact s1.free hb
          refine ⟨Nat.zero_le _, fun M nM => ?_⟩
          have sM := same_new (o := HO.lst []) nM
          refine ⟨_, rfl, p, A.Piece, dx, _, rfl, sM _ _ hp2, T.cl_Piece, T.n_Piece_entries, (by show 5 < 1000; decide), ?_⟩
          rw [piF_putE]
          have npM : p ≠ M := ne_of_none hp2 nM
          generalize hH3 : upd (upd H2 M (HO.lst [])) p _ = H3
          have hp3 : H3 p = some (.ins A.Piece dx (piF s.tonic vS (.ref g) M q)) := by
            rw [← hH3, upd_same]
          have hM3 : H3 M = some (.lst []) := by
            rw [← hH3, upd_ne npM.symm, upd_same]
          have x3 : Xc p H1 H3 := fun b o hb ne => by
            rw [← hH3, upd_ne ne]
            exact sM _ _ (x2 _ _ hb ne)
          have tr : ∀ {z o}, H1 z = some o → z ≠ p → z ≠ M := fun {z o} hz ne e => by
            rw [← e, x2 _ _ hz ne] at nM
            cases nM
          have n3 : ∀ b, H3 b = none → H b = none := fun b hb => by
            by_cases e : b = p
            · rw [e, hp3] at hb
              cases hb
            · rw [← hH3, upd_ne e] at hb
              exact n2 _ (sM.free hb)
          have zf : ∀ {z}, H z = none → ¬ Z z := fun {z} nz hz => hZ z hz nz
          have hG3 : LineAt H3 g l := hG.xc h1.obj x3
          have nlne : l ≠ [] := fun e => by
            rw [e] at eE
            cases eE
          have sq : ∀ {z : Addr} {ms : List Int}, SeqH H1 z ms → z ≠ p ∧ z ≠ M := fun {z ms} hz => by
            rcases hz with hz | hz
            · have ne : z ≠ p := fun e => by rw [e, h1.obj] at hz; cases hz
              exact ⟨ne, tr hz ne⟩
            · have ne : z ≠ p := fun e => by rw [e, h1.obj] at hz; cases hz
              exact ⟨ne, tr hz ne⟩
          have sj : OwnL Z M H3 vS s.subject := by
            rcases h1.subj with h | ⟨h0, a, h2, ⟨us, hu, hU⟩, h4, _⟩
            · exact .inl h
            · have ne : a ≠ p := fun e => by rw [e, h1.obj] at hu; cases hu
              exact .inr ⟨h0, a, h2, LineAt.xc h1.obj x3 ⟨us, hu, hU⟩, h4, tr hu ne⟩
          have hsne : s.subject ≠ [] := fun e => by
            rw [e] at b
            cases b
          have pc : PcAt A K Z H3 p { s with counter := l, entries := [] } dx vS (.ref g) M q c d :=
            ⟨hp3, sj, .inr ⟨nlne, g, rfl, hG3, zf ng, tr hw npg.symm⟩, ⟨[], hM3, Rel.nil⟩, h1.prc.xc h1.obj piF_is x3, h.zp, zf (n2 _ nM), ⟨h.zc.1, (sq h1.prc.on).2⟩, ⟨h.zd.1, (sq h1.prc.off).2⟩, ⟨h.ok.sl, b3.2, fun _ => hsne, Nat.zero_le _⟩⟩
          -- return [len(events), line_length(events), self.cost_lowered(0)]
          obtain ⟨ws3, hw3, hW3⟩ := id hG3
          refine ⟨_, rfl, g, ws3, rfl, .inl (SqL.of hw3), _, rfl, g, l, rfl, hG3, b3.2, fun H4 s4 => ?_⟩
          have pc4 := pc.same s4
          refine ⟨_, rfl, p, dx, _, rfl, pc4.obj, piF_no _ _ _ _ _ (by decide +kernel), Z, p, { s with counter := l, entries := [] }, 0, rfl, ⟨_, _, _, _, _, _, _, pc4⟩, eE, fun H5 s5 => ?_⟩
          have s35 := s4.trans s5
          have e1 : Cp08.shift (-0) l = l := shift_zero _
          refine ⟨(by show 3 ≤ sizeLine; decide), fun r nr => ?_⟩
          have sr := s35.trans (same_new (o := HO.lst [V.int (ws3.length : Int), V.int (Cp07.length l : Int), V.int (Cp07.cost s.table (0, Cp08.shift (-0) l) (0, s.subject) : Int)]) nr)
          refine res _ r ⟨_, _, _, _, _, _, _, pc.same sr⟩ (fun b o hb hz => sr _ _ (x3 _ _ (s1 _ _ hb) fun e => h.zp (e ▸ hz))) (n3 _ (s35.free nr)) ?_
          show upd H5 r (HO.lst [V.int (ws3.length : Int), V.int (Cp07.length l : Int), V.int (Cp07.cost s.table (0, Cp08.shift (-0) l) (0, s.subject) : Int)]) r = _
          rw [upd_same, hW3.1, e1]
          rfl
/-- enter -/
def spC4 (A : At) (K : PySem.W.Frag) (c : Int → Int → Int → Int → Cp08.Call) : Sp := fun vs H Q _ => ∃ p i j k m, vs = [.ref p, .int i, .int j, .int k, .int m] ∧ ResC A K p (c i j k m) H Q
theorem ok_take_entry (F : Fun K "take_entry" "Piece.take_entry" s_Piece_take_entry f fd) (T : Txt K mg A) (C_Piece_entry_refusal : Mt P w K mg base A.Piece "entry_refusal" 6 ["self", "kind", "time", "octaves", "voice"] (spRefusal A K))
    (C_Piece_made_entry : Mt P w K mg base A.Piece "made_entry" 5 ["self", "kind", "time", "octaves", "voice"] (spMade A K)) (C_cost_against : Fn P w K mg base "cost_against" 6 ["entry", "others", "prices"] (spAgainst A K)) :
    FnOk P w K mg base CX0 7 f fd ["self", "kind", "time", "octaves", "voice"] (spC4 A K .enter) := by
  refine F.ok sc_Piece_take_entry (fun vs H Q E h => ?_) (fun cdv A' outer s H vs Q E hr h => ?_)
  · obtain ⟨p, i, j, k, m, rfl, _⟩ := h
    rfl
  · obtain ⟨p, k, t, o, v, rfl, Z, s, hP, hZ, res⟩ := h
    obtain ⟨dx, vS, vC, N, q, c, d, h⟩ := id hP
    refine ⟨_, (pss_cons (ps_set (i := 5) sc_Piece_take_entry.nd rfl (Or.inl rfl) (pe_mt (pv 0) T.cl_Piece C_Piece_entry_refusal (hr.mono (by decide)) (pa_cons (pv 1) (pa_cons (pv 2) (pa_cons (pv 3) (pa_cons (pv 4) pa_nil))))))
      (pss_cons (ps_if (pt_cmpR op_notN (pv 5) pe_non (nomark _)) (pss_one (ps_ret (pe_lst (pa_cons (pv 5) pa_nil)))) pss_nil)
      (pss_cons (ps_if (pt_cmpR op_ge (pe_callB call_len_seq (by rfl) T.b_len (by decide +kernel) (pa_cons (pe_fld (pv 0) rfl) pa_nil)) (pe_cst (by rfl) T.c_MOST_ENTRIES) (nomark _)) (pss_one (ps_ret (pe_lst (pa_cons (pe_cst (by rfl) T.c_WRONG_COUNT) pa_nil)))) pss_nil)
      (pss_cons (ps_set (i := 6) sc_Piece_take_entry.nd rfl (Or.inl rfl) (pe_mt (pv 0) T.cl_Piece C_Piece_made_entry (hr.mono (by decide)) (pa_cons (pv 1) (pa_cons (pv 2) (pa_cons (pv 3) (pa_cons (pv 4) pa_nil))))))
      (pss_cons (ps_set (i := 7) sc_Piece_take_entry.nd rfl (Or.inl rfl) (pe_fn C_cost_against (hr.mono (by decide)) (by rfl) (pa_cons (pv 6) (pa_cons (pe_fld (pv 0) rfl) (pa_cons (pe_fld (pv 0) rfl) pa_nil)))))
      (pss_cons (ps_expr (pe_bm PySem.F.plainAttrs_list PySem.F.slot_list_append PySem.F.type_list_append mt_append (pe_fld (pv 0) rfl) (pa_cons (pv 6) pa_nil)))
      (pss_one (ps_ret (pe_lst (pa_cons (pe_callB call_len_seq (by rfl) T.b_len (by decide +kernel) (pa_cons (pe_fld (pv 0) rfl) pa_nil)) (pa_cons (pv 7) pa_nil))))))))))), ?_⟩
    refine ⟨_, rfl, p, dx, _, rfl, h.obj, piF_no _ _ _ _ _ (by decide +kernel), _, rfl, _, rfl, _, rfl, _, rfl, Z, p, s, k, t, o, v, rfl, hP, fun H1 s1 => ?_⟩
    rcases refV_cases s k t o v with er | ⟨n, er⟩
    · rw [enter_taken er] at res
      obtain ⟨rB, mB, _⟩ := refV_non er
      obtain ⟨⟨k0, k3⟩, ⟨t0, t1⟩, ⟨o0, o1⟩, v0, v3⟩ := range_ok rB
      have ke : ((k.toNat : Nat) : Int) = k := Int.toNat_of_nonneg k0
      have te : ((t.toNat : Nat) : Int) = t := Int.toNat_of_nonneg t0
      have ve : ((v.toNat : Nat) : Int) = v := Int.toNat_of_nonneg v0
      rw [er]
      refine ⟨_, rfl, rfl, _, rfl, ?_⟩
      have h1 := h.same s1
      obtain ⟨vs, hN, hV⟩ := h1.ents
      have h8 := h.ok.few
      refine a_test (v_ge (v_len (val_fld (val_var rfl) h1.obj T.cl_Piece T.n_Piece_entries (piF_entries ..)) (SqL.of hN)) val_c) _ (if_b (fun b => ?_) fun b => ?_)
      · have b' := of_decide_eq_true b
        rw [hV.1] at b'
        rw [if_pos (by show 8 ≤ s.entries.length; omega)] at res
        exact ⟨(by show 1 ≤ sizeLine; decide), fun r nr => Res.refuse res hP s1 nr⟩
      · have b' := of_decide_eq_false b
        rw [hV.1] at b'
        rw [if_neg (by show ¬ 8 ≤ s.entries.length; omega)] at res
        -- entry = self.made_entry(..)
        refine ⟨_, rfl, p, dx, _, rfl, h1.obj, piF_no _ _ _ _ _ (by decide +kernel), _, rfl, _, rfl, _, rfl, _, rfl, ?_⟩
        refine ⟨Z, p, s, ⟨k.toNat, t.toNat, o, v.toNat⟩, ?_, hP.same s1, by show k.toNat ≤ 3; omega, o0, o1, ?_, fun H2 ev s2 hE => ?_⟩
        · show _ = [V.ref p, V.int ((k.toNat : Nat) : Int), V.int ((t.toNat : Nat) : Int), V.int o, V.int ((v.toNat : Nat) : Int)]
          rw [ke, te, ve]
          rfl
        · show missing s ((k.toNat : Nat) : Int) = false
          rw [ke]
          exact mB
        generalize (⟨k.toNat, t.toNat, o, v.toNat⟩ : Ent) = en at res hE
        have h2 := h1.same s2
        -- cost = cost_against(entry, self.entries, self.prices)
        refine ⟨_, rfl, ?_⟩
        refine ⟨_, rfl, p, A.Piece, dx, _, _, rfl, h2.obj, T.cl_Piece, T.n_Piece_entries, piF_entries .., ?_⟩
        refine ⟨_, rfl, p, A.Piece, dx, _, _, rfl, h2.obj, T.cl_Piece, T.n_Piece_prices, piF_prices .., ?_⟩
        refine ⟨ev, N, q, c, d, _, _, s, s.entries, en, rfl, hE, h2.ents, h2.prc, h.ok.short, h8, fun H3 s3 => ?_⟩
        rw [← added_eq]
        have h3 := h2.same s3
        have hN3 := s3 _ _ (s2 _ _ hN)
        -- self.entries.append(entry)
        refine ⟨_, rfl, p, A.Piece, dx, _, _, rfl, h3.obj, T.cl_Piece, T.n_Piece_entries, piF_entries .., .inl ⟨rfl, _, SqL.of hN3⟩, _, rfl, ?_⟩
        refine ⟨N, vs, ev, rfl, rfl, hN3, ?_, ?_⟩
        · rw [hV.1]
          exact small1000 (by omega)
        have mm : Mut (fun a => a = N) H3 (upd H3 N (.lst (vs ++ [ev]))) := mut_upd hN3 rfl
        have hE4 : EnsAt A (fun a => Z a ∨ a = N) s (upd H3 N (.lst (vs ++ [ev]))) N (s.entries ++ [en]) := by
          refine ⟨_, upd_same, ?_⟩
          refine (hV.imp fun _ _ q => ((q.same s2).same s3).mut mm fun _ z => .inr z).snoc ?_
          refine EnAt.mut mm (fun _ z => .inr z) ((hE.same s3).imp fun a z => ?_)
          rcases z with z | z
          · obtain ⟨ob, e⟩ := Option.ne_none_iff_exists'.mp (hZ a z)
            rw [s1 _ _ e]
            exact fun e => by cases e
          · rw [z, hN]
            exact fun e => by cases e
        have pc := h3.ents_set mm hE4 (by rw [List.length_append, List.length_singleton]; omega)
        generalize hH4 : upd H3 N (.lst (vs ++ [ev])) = H4 at mm hE4 pc
        have hN4 : H4 N = some (.lst (vs ++ [ev])) := by
          rw [← hH4, upd_same]
        have s03 := s1.trans (s2.trans s3)
        -- return [len(self.entries), cost]
        refine ⟨_, rfl, p, A.Piece, dx, _, _, rfl, pc.obj, T.cl_Piece, T.n_Piece_entries, piF_entries .., N, _, rfl, .inl (SqL.of hN4), _, rfl, ?_⟩
        refine ⟨(by show 2 ≤ sizeLine; decide), fun r nr => ?_⟩
        have sr := same_new (o := HO.lst [V.int ((vs ++ [ev]).length : Int), V.int (Cp08.added s en : Int)]) nr
        refine res _ r ⟨_, _, _, _, _, _, _, pc.same sr⟩ (fun b ob hb hz => sr _ _ (mm _ _ (s03 _ _ hb) (.inl fun e => h.zN (e ▸ hz)))) ?_ ?_
        · by_cases e : r = N
          · rw [e, hN4] at nr
            cases nr
          · rw [← hH4, upd_ne e] at nr
            exact s03.free nr
        · rw [upd_same, List.length_append, hV.1]
          rfl
    · rw [enter_refused er] at res
      rw [er]
      exact ⟨_, rfl, rfl, _, rfl, _, rfl, (by show 1 ≤ sizeLine; decide), fun r nr => Res.refuse res hP s1 nr⟩
/-- drop -/
theorem ok_drop_entry (F : Fun K "drop_entry" "Piece.drop_entry" s_Piece_drop_entry f fd) (T : Txt K mg A) : FnOk P w K mg base CX0 1 f fd ["self"] (spC0 A K .drop) := by
  refine F.ok sc_Piece_drop_entry (fun vs H Q E h => ?_) (fun cdv A' outer s H vs Q E hr h => ?_)
  · obtain ⟨p, rfl, _⟩ := h
    rfl
  · obtain ⟨p, rfl, Z, s, hP, hZ, res⟩ := h
    obtain ⟨dx, vS, vC, N, q, c, d, h⟩ := id hP
    refine ⟨_, (pss_cons (ps_if (pt_cmpR op_eq (pe_callB call_len_seq (by rfl) T.b_len (by decide +kernel) (pa_cons (pe_fld (pv 0) rfl) pa_nil)) pe_int (nomark _)) (pss_one (ps_ret (pe_lst (pa_cons (pe_cst (by rfl) T.c_NO_ENTRY) pa_nil)))) pss_nil)
      (pss_cons (ps_expr (pe_bm0 PySem.F.plainAttrs_list PySem.F.slot_list_pop PySem.F.type_list_pop mt_pop (pe_fld (pv 0) rfl)))
      (pss_one (ps_ret (pe_lst (pa_cons (pe_callB call_len_seq (by rfl) T.b_len (by decide +kernel) (pa_cons (pe_fld (pv 0) rfl) pa_nil)) pa_nil)))))), ?_⟩
    obtain ⟨vs, hN, hV⟩ := h.ents
    refine a_test (v_eqI (v_len (val_fld (val_var rfl) h.obj T.cl_Piece T.n_Piece_entries (piF_entries ..)) (SqL.of hN)) val_c) _ (if_b (fun b => ?_) fun b => ?_)
    · have b' := of_decide_eq_true b
      rw [hV.1] at b'
      have e0 : s.entries.isEmpty = true := by
        rw [List.isEmpty_iff_length_eq_zero]
        omega
      have e : Cp08.step s .drop = (s, Cp08.just (-3)) := by
        unfold Cp08.step
        dsimp only
        rw [if_pos e0]
      rw [e] at res
      exact ⟨(by show 1 ≤ sizeLine; decide), fun r nr => Res.refuse res hP (.refl H) nr⟩
    · have b' := of_decide_eq_false b
      rw [hV.1] at b'
      have e0 : s.entries.isEmpty = false := by
        cases h : s.entries with
        | nil =>
          rw [h] at b'
          exact absurd rfl b'
        | cons x l => rfl
      have e : Cp08.step s .drop = ({ s with entries := s.entries.dropLast }, Cp08.just ((s.entries.length : Int) - 1)) := by
        unfold Cp08.step
        dsimp only
        rw [if_neg (by rw [e0]; exact Bool.false_ne_true)]
      rw [e] at res
      have hlt : vs.length - 1 < vs.length := by
        rw [hV.1]
        omega
      refine ⟨_, rfl, p, A.Piece, dx, _, _, rfl, h.obj, T.cl_Piece, T.n_Piece_entries, piF_entries .., .inl ⟨rfl, _, SqL.of hN⟩, ?_⟩
      refine ⟨N, vs, vs[vs.length - 1], rfl, rfl, hN, List.getElem?_eq_getElem hlt, ?_⟩
      have mm : Mut (fun a => a = N) H (upd H N (.lst vs.dropLast)) := mut_upd hN rfl
      have hE : EnsAt A (fun a => Z a ∨ a = N) s (upd H N (.lst vs.dropLast)) N s.entries.dropLast := by
        refine ⟨_, upd_same, ?_⟩
        have t := (hV.imp fun _ _ q => q.mut mm fun _ z => .inr z).take (s.entries.length - 1)
        rw [show vs.take (s.entries.length - 1) = vs.dropLast by rw [List.dropLast_eq_take, hV.1], show s.entries.take (s.entries.length - 1) = s.entries.dropLast by rw [List.dropLast_eq_take]] at t
        exact t
      have h8 := h.ok.few
      have pc := h.ents_set mm hE (by rw [List.length_dropLast]; omega)
      generalize hH1 : upd H N (.lst vs.dropLast) = H1 at mm hE pc
      have hN1 : H1 N = some (.lst vs.dropLast) := by
        rw [← hH1, upd_same]
      refine ⟨_, rfl, p, A.Piece, dx, _, _, rfl, pc.obj, T.cl_Piece, T.n_Piece_entries, piF_entries .., N, _, rfl, .inl (SqL.of hN1), ?_⟩
      refine ⟨(by show 1 ≤ sizeLine; decide), fun r nr => ?_⟩
      have sr := same_new (o := HO.lst [V.int (vs.dropLast.length : Int)]) nr
      refine res _ r ⟨_, _, _, _, _, _, _, pc.same sr⟩ (fun b ob hb hz => sr _ _ (mm _ _ hb (.inl fun e => h.zN (e ▸ hz)))) ?_ ?_
      · by_cases e : r = N
        · rw [e, hN1] at nr
          cases nr
        · rw [← hH1, upd_ne e] at nr
          exact nr
      · rw [upd_same, List.length_dropLast, hV.1]
        have e2 : ((s.entries.length - 1 : Nat) : Int) = (s.entries.length : Int) - 1 := by omega
        rw [e2]
        rfl
end
end Fa

set_option Elab.async false
set_option linter.all false
set_option maxRecDepth 100000
set_option maxHeartbeats 4000000
namespace Fa
open PySem PySem.Spec PyProof.Rows L2
/-- a call as it is read: a tuple of its number and a new list of its numbers -/
def CallR (H0 : Hp) (o : Addr) (H : Hp) (v : V) (d : Cll) : Prop := ∃ q b, v = .ref q ∧ H q = some (.tup [.int d.1, .ref b]) ∧ H b = some (.lst (d.2.map V.int)) ∧ H0 b = none ∧ b ≠ o ∧ H0 q = none
theorem CallR.but {H0 : Hp} {o : Addr} {H H' : Hp} {v : V} {d : Cll} {xs : List V} (ho : H o = some (.lst xs)) (k : ∀ b x, H b = some x → b ≠ o → H' b = some x) (h : CallR H0 o H v d) : CallR H0 o H' v d := by
  obtain ⟨q, b, h1, h2, h3, h4, h5, h6⟩ := h
  exact ⟨q, b, h1, k q _ h2 (fun e => by rw [e, ho] at h2; cases h2), k b _ h3 h5, h4, h5, h6⟩
theorem encAll_take {ds : List Cll} {i : Nat} {d : Cll} (h : ds[i]? = some d) : encAll (ds.take (i + 1)) = encAll (ds.take i) ++ encCall d := by
  rw [List.take_add_one, h, encAll_append]
  show encAll (ds.take i) ++ (encCall d ++ []) = _
  rw [List.append_nil]
theorem encAll_split {ds : List Cll} {i : Nat} {d : Cll} (h : ds[i]? = some d) : encAll ds = encAll (ds.take i) ++ (encCall d ++ encAll (ds.drop (i + 1))) := by
  have hi : i < ds.length := (List.getElem?_eq_some_iff.mp h).1
  have e : ds = ds.take i ++ d :: ds.drop (i + 1) := by
    have e4 : ds[i] = d := Option.some.inj ((List.getElem?_eq_getElem hi).symm.trans h)
    rw [← e4, ← List.drop_eq_getElem_cons hi, List.take_append_drop]
  have e2 := congrArg encAll e
  rw [encAll_append] at e2
  exact e2
section
variable {P : Program} {w : World} {K : PySem.W.Frag} {mg : Str → Option Value} {base : Heap} {A : At} {f : Addr} {fd : FuncData}
def spReadCalls (K : PySem.W.Frag) : Sp := fun vs H Q _ => ∃ (a : Addr) (ds : List Cll), vs = [.ref a] ∧ SqL K H a ((encAll ds).map V.int) ∧ ds.length ≤ 60 ∧
  ∀ (H' : Hp) p, Same H H' → H p = none → LstAt (CallR H p) H' p ds → Q (.ref p) H'
theorem ok_read_calls (F : Fun K "read_calls" "read_calls" s_read_calls f fd) (T : Txt K mg A) : FnOk P w K mg base CX0 1 f fd ["calls"] (spReadCalls K) := by
  refine F.ok sc_read_calls (fun vs H Q E h => ?_) (fun cdv A' outer s H vs Q E hr h => ?_)
  · obtain ⟨a, ds, rfl, _⟩ := h
    rfl
  · obtain ⟨a, ds, rfl, hA, hn, q⟩ := h
    refine ⟨_, (pss_cons (ps_set (i := 1) sc_read_calls.nd rfl (Or.inl rfl) (pe_lst pa_nil))
      (pss_cons (ps_set (i := 2) sc_read_calls.nd rfl (Or.inl rfl) pe_int)
      (pss_cons (ps_while PassesOwn.never (pt_cmpR op_lt (pv 2) (pe_callB call_len_seq (by rfl) T.b_len (by decide +kernel) (pa_cons (pv 0) pa_nil)) (nomark _)) (pss_cons (ps_set (i := 3) sc_read_calls.nd rfl (Or.inl rfl) (pe_op op_add (pv 2) pe_int))
      (pss_cons (ps_set (i := 4) sc_read_calls.nd rfl (Or.inl rfl) (pe_op op_add (pv 3) (pe_ix ix_list (pv 0) (pe_op op_add (pv 2) pe_int) (fun _ _ => rfl))))
      (pss_cons (ps_expr (pe_bm PySem.F.plainAttrs_list PySem.F.slot_list_append PySem.F.type_list_append mt_append (pv 1) (pa_cons (pe_tup (pa_cons (pe_ix ix_list (pv 0) (pv 2) (fun _ _ => rfl)) (pa_cons (pe_slice sl_list (pv 0) (po_some (pv 3)) (po_some (pv 4))) pa_nil))) pa_nil)))
      (pss_one (ps_set (i := 2) sc_read_calls.nd rfl (Or.inl rfl) (pe_op op_add (pv 4) pe_int)))))))
      (pss_one (ps_ret (pv 1)))))), ?_⟩
    refine ⟨Nat.zero_le _, fun o no => ?_⟩
    have hl : ((encAll ds).map V.int).length = (encAll ds).length := List.length_map _
    refine while_by (fun σ H' => ∃ (i : Nat) (v3 v4 : Option V), σ = [some (.ref a), some (.ref o), some (.int ((encAll (ds.take i)).length : Int)), v3, v4] ∧ i ≤ ds.length ∧ Same H H' ∧ LstAt (CallR H o) H' o (ds.take i)) (fun σ _ => (encAll ds).length - slotNat σ 2)
      ⟨0, none, none, rfl, Nat.zero_le _, same_new no, [], upd_same, Rel.nil⟩ ?_ (fun σ H Q Q' k ⟨v, h1, u, h2, p, ys, h3, h4, i, j, h5, h6, b, h7, q⟩ => ⟨v, h1, u, h2, p, ys, h3, h4, i, j, h5, h6, b, h7, k _ _ q⟩)
    rintro σ H1 ⟨i, v3, v4, rfl, hi, s1, vs, hO, hV⟩
    have hA1 : SqL K H1 a ((encAll ds).map V.int) := s1.seq hA
    refine a_test (v_lt (val_var rfl) (v_len (val_var rfl) hA1)) _ (if_b (fun c => ?_) fun c => ?_)
    · have c' := of_decide_eq_true c
      rw [hl] at c'
      have hlt : i < ds.length := by
        by_cases h : i < ds.length
        · exact h
        · rw [List.take_of_length_le (by omega)] at c'
          omega
      have hd : ds[i]? = some ds[i] := List.getElem?_eq_getElem hlt
      generalize ds[i] = d at hd
      have spl := encAll_split hd
      generalize hp : (encAll (ds.take i)).length = at0 at c' ⊢
      have g0 : (encAll ds)[at0]? = some d.1 := by
        rw [spl, List.getElem?_append_right (by omega), hp, Nat.sub_self]
        rfl
      have g1 : (encAll ds)[at0 + 1]? = some (d.2.length : Int) := by
        rw [spl, List.getElem?_append_right (by omega), hp, show at0 + 1 - at0 = 1 by omega]
        rfl
      have g2 : ((encAll ds).drop (at0 + 2)).take d.2.length = d.2 := by
        rw [spl, ← List.drop_drop, ← hp, List.drop_left]
        show (List.drop 2 (d.1 :: (d.2.length : Int) :: ((d.2 ++ [0]) ++ encAll (ds.drop (i + 1))))).take d.2.length = d.2
        show ((d.2 ++ [0]) ++ encAll (ds.drop (i + 1))).take d.2.length = d.2
        rw [List.append_assoc, List.take_left]
      have e1 : ((at0 : Int) + 1) = ((at0 + 1 : Nat) : Int) := by omega
      have e2 : ((at0 : Int) + 2) = ((at0 + 2 : Nat) : Int) := by omega
      have e3 : (((at0 : Int) + 2) + (d.2.length : Int)) = ((at0 + 2 + d.2.length : Nat) : Int) := by omega
      have ecut : cutV ((encAll ds).map V.int) (some ((at0 : Int) + 2)) (some (((at0 : Int) + 2) + (d.2.length : Int))) = d.2.map V.int := by
        rw [e3, e2, cut_mid, ← List.map_drop, ← List.map_take, show at0 + 2 + d.2.length - (at0 + 2) = d.2.length by omega, g2]
      -- begin = at + 2; end = begin + calls[at + 1]
      refine v_add (val_var rfl) val_c _ ?_
      refine v_add (val_var rfl) (v_ixL (val_var rfl) (v_add (val_var rfl) val_c) hA1 (v := .int (d.2.length : Int)) (by rw [e1]; exact ix_int g1)) _ ?_
      -- found.append((calls[at], calls[begin:end]))
      refine ⟨_, rfl, .inl ⟨rfl, _, SqL.of hO⟩, ?_⟩
      refine v_ixL (val_var rfl) (val_var rfl) hA1 (v := .int d.1) (ix_int g0) _ ?_
      refine ⟨_, rfl, _, rfl, _, rfl, _, rfl, _, rfl, a, _, rfl, hA1, fun b nb => ?_⟩
      rw [ecut]
      have sb := same_new (o := HO.lst (d.2.map V.int)) nb
      refine ⟨(by show 2 ≤ sizeLine; decide), fun r nr => ?_⟩
      have sr := same_new (o := HO.tup [V.int d.1, V.ref b]) nr
      have nob : o ≠ b := ne_of_none hO nb
      have hO2 := sr _ _ (sb _ _ hO)
      have nrb : b ≠ r := ne_of_none upd_same nr
      refine ⟨o, vs, _, rfl, rfl, hO2, ?_, ?_⟩
      · rw [hV.1, List.length_take]
        exact small1000 (by omega)
      · have kk : ∀ c x, H1 c = some x → c ≠ o → (upd (upd (upd H1 b (HO.lst (d.2.map V.int))) r (HO.tup [V.int d.1, V.ref b])) o (.lst (vs ++ [.ref r]))) c = some x := fun c x hc ne => by
          rw [upd_ne ne]
          exact sr _ _ (sb _ _ hc)
        have nro : r ≠ o := (ne_of_none (sb _ _ hO) nr).symm
        refine v_add (val_var rfl) val_c _ ?_
        refine ⟨⟨i + 1, some (.int ((at0 : Int) + 2)), some (.int ((at0 : Int) + 2 + (d.2.length : Int))), ?_, by omega, same_mut ((s1.trans sb).trans sr) no, _, upd_same, ?_⟩, ?_⟩
        · rw [encAll_take hd, List.length_append, hp]
          have e5 : ((at0 : Int) + 2 + (d.2.length : Int) + 1) = ((at0 + (encCall d).length : Nat) : Int) := by
            unfold encCall
            rw [List.length_cons, List.length_cons, List.length_append, List.length_singleton]
            omega
          rw [← e5]
          rfl
        · rw [List.take_add_one, hd]
          refine (hV.imp fun v x h => h.but hO kk).snoc ⟨r, b, rfl, ?_, ?_, s1.free nb, nob.symm, s1.free (sb.free nr)⟩
          · rw [upd_ne nro, upd_same]
          · rw [upd_ne nob.symm, upd_ne nrb, upd_same]
        · show (encAll ds).length - ((at0 : Int) + 2 + (d.2.length : Int) + 1).toNat < (encAll ds).length - ((at0 : Int)).toNat
          omega
    · have c' := of_decide_eq_false c
      rw [hl] at c'
      have hge : ds.length ≤ i := by
        by_cases h : i < ds.length
        · have hd : ds[i]? = some ds[i] := List.getElem?_eq_getElem h
          have e := congrArg List.length (encAll_split hd)
          rw [List.length_append, List.length_append] at e
          have : 1 ≤ (encCall ds[i]).length := by
            unfold encCall
            rw [List.length_cons]
            omega
          omega
        · omega
      rw [List.take_of_length_le hge] at hV
      exact ⟨_, rfl, q _ o s1 no ⟨vs, hO, hV⟩⟩
end
end Fa

set_option Elab.async false
set_option linter.all false
set_option maxRecDepth 100000
set_option maxHeartbeats 4000000
namespace Fa
open PySem PySem.Spec PyProof.Rows L2
open Cp07 (Line Voice Table)
open Cp08 (Desk)
/-! ### which call -/
theorem call_cases {c : Int} {ns : List Int} {q : Cp08.Call} (h : Cp08Neutral.callOf (c :: ns) = some q) :
    (c = 1 ∧ ∃ t r, ns = t :: r ∧ q = .subject t r) ∨ (c = 2 ∧ q = .counter ns) ∨ (c = 3 ∧ ns.length = 16 ∧ q = prCall ns) ∨ (c = 4 ∧ q = .answer) ∨ (c = 5 ∧ ∃ k, ns = [k] ∧ q = .line k) ∨ (c = 6 ∧ ∃ k, ns = [k] ∧ q = .swap k) ∨ (c = 7 ∧ q = .swaps) ∨
    (c = 8 ∧ ∃ k t o v, ns = [k, t, o, v] ∧ q = .enter k t o v) ∨ (c = 9 ∧ ∃ k t v, ns = [k, t, v] ∧ q = .best k t v) ∨ (c = 10 ∧ q = .drop) ∨ (c = 11 ∧ q = .cost) ∨ (c = 12 ∧ ∃ i j, ns = [i, j] ∧ q = .bad i j) ∨ (c = 13 ∧ q = .entries) := by
  unfold Cp08Neutral.callOf at h
  split at h
  case h_1 t r e =>
    cases e
    cases h
    exact .inl ⟨rfl, t, r, rfl, rfl⟩
  case h_2 r e =>
    cases e
    cases h
    exact .inr (.inl ⟨rfl, rfl⟩)
  case h_3 r e =>
    cases e
    by_cases hl : ns.length = 16
    · rw [if_pos hl] at h
      cases h
      exact .inr (.inr (.inl ⟨rfl, hl, rfl⟩))
    · rw [if_neg hl] at h
      cases h
  case h_4 e =>
    cases e
    cases h
    exact .inr (.inr (.inr (.inl ⟨rfl, rfl⟩)))
  case h_5 k e =>
    cases e
    cases h
    exact .inr (.inr (.inr (.inr (.inl ⟨rfl, k, rfl, rfl⟩))))
  case h_6 k e =>
    cases e
    cases h
    exact .inr (.inr (.inr (.inr (.inr (.inl ⟨rfl, k, rfl, rfl⟩)))))
  case h_7 e =>
    cases e
    cases h
    exact .inr (.inr (.inr (.inr (.inr (.inr (.inl ⟨rfl, rfl⟩))))))
  case h_8 k t o v e =>
    cases e
    cases h
    exact .inr (.inr (.inr (.inr (.inr (.inr (.inr (.inl ⟨rfl, k, t, o, v, rfl, rfl⟩)))))))
  case h_9 k t v e =>
    cases e
    cases h
    exact .inr (.inr (.inr (.inr (.inr (.inr (.inr (.inr (.inl ⟨rfl, k, t, v, rfl, rfl⟩))))))))
  case h_10 e =>
    cases e
    cases h
    exact .inr (.inr (.inr (.inr (.inr (.inr (.inr (.inr (.inr (.inl ⟨rfl, rfl⟩)))))))))
  case h_11 e =>
    cases e
    cases h
    exact .inr (.inr (.inr (.inr (.inr (.inr (.inr (.inr (.inr (.inr (.inl ⟨rfl, rfl⟩))))))))))
  case h_12 i j e =>
    cases e
    cases h
    exact .inr (.inr (.inr (.inr (.inr (.inr (.inr (.inr (.inr (.inr (.inr (.inl ⟨rfl, i, j, rfl, rfl⟩)))))))))))
  case h_13 e =>
    cases e
    cases h
    exact .inr (.inr (.inr (.inr (.inr (.inr (.inr (.inr (.inr (.inr (.inr (.inr ⟨rfl, rfl⟩)))))))))))
  case h_14 => cases h
theorem stepD_eq {s : Desk} {d : Cll} {q : Cp08.Call} (h : Cp08Neutral.callOf (d.1 :: d.2) = some q) : stepD s d = ((Cp08.step s q).1, AnsL (Cp08.step s q).2) := by
  unfold stepD Cp08Neutral.step
  show (match Cp08Neutral.callOf (d.1 :: d.2) with
    | none => (s, [])
    | some q => let r := Cp08.step s q; (r.1, r.2.v :: r.2.l)) = _
  rw [h]
  rfl
section
variable {A : At} {K : PySem.W.Frag} {Z : Addr → Prop} {H H' : Hp} {p : Addr} {s : Desk} {ans : List Int} {Q : VK}
theorem Res.mono (k : Same H H') (h : Res A K Z p s ans H Q) : Res A K Z p s ans H' Q := fun H2 r hP kz nr hr => h H2 r hP (fun b o hb hz => kz b o (k _ _ hb) hz) (k.free nr) hr
theorem atI0 {x : V} {l : List V} : atI (x :: l) 0 = some x := atI_nat (j := 0) rfl
theorem atI1 {x y : V} {l : List V} : atI (x :: y :: l) 1 = some y := atI_nat (j := 1) rfl
theorem atI2 {x y z : V} {l : List V} : atI (x :: y :: z :: l) 2 = some z := atI_nat (j := 2) rfl
theorem atI3 {x y z u : V} {l : List V} : atI (x :: y :: z :: u :: l) 3 = some u := atI_nat (j := 3) rfl
end
section
variable {P : Program} {w : World} {K : PySem.W.Frag} {mg : Str → Option Value} {base : Heap} {A : At} {f : Addr} {fd : FuncData}
def spCall (A : At) (K : PySem.W.Frag) : Sp := fun vs H Q _ => ∃ (p b : Addr) (d : Cll) (q : Cp08.Call), vs = [.ref p, .int d.1, .ref b] ∧ H b = some (.lst (d.2.map V.int)) ∧ d.2.length ≤ 59 ∧ Cp08Neutral.callOf (d.1 :: d.2) = some q ∧ ResC A K p q H Q
theorem ok_answer_call (F : Fun K "answer_call" "answer_call" s_answer_call f fd) (T : Txt K mg A) (C_Piece_take_subject : Mt P w K mg base A.Piece "take_subject" 4 ["self", "tonic", "numbers"] (spSubject A K))
    (C_Piece_take_counter : Mt P w K mg base A.Piece "take_counter" 7 ["self", "numbers"] (spCL A K 0 60 .counter)) (C_Piece_take_prices : Mt P w K mg base A.Piece "take_prices" 3 ["self", "numbers"] (spCL A K 16 16 prCall))
    (C_Piece_tell_answer : Mt P w K mg base A.Piece "tell_answer" 4 ["self"] (spC0 A K .answer)) (C_Piece_tell_line : Mt P w K mg base A.Piece "tell_line" 5 ["self", "kind"] (spC1 A K .line))
    (C_Piece_tell_swap : Mt P w K mg base A.Piece "tell_swap" 7 ["self", "n"] (spC1 A K .swap)) (C_Piece_tell_swaps : Mt P w K mg base A.Piece "tell_swaps" 7 ["self"] (spC0 A K .swaps))
    (C_Piece_take_entry : Mt P w K mg base A.Piece "take_entry" 7 ["self", "kind", "time", "octaves", "voice"] (spC4 A K .enter)) (C_Piece_tell_best : Mt P w K mg base A.Piece "tell_best" 7 ["self", "kind", "time", "voice"] (spC3 A K .best))
    (C_Piece_drop_entry : Mt P w K mg base A.Piece "drop_entry" 1 ["self"] (spC0 A K .drop)) (C_Piece_tell_cost : Mt P w K mg base A.Piece "tell_cost" 8 ["self"] (spC0 A K .cost))
    (C_Piece_tell_bad : Mt P w K mg base A.Piece "tell_bad" 6 ["self", "i", "j"] (spC2 A K .bad)) (C_Piece_tell_entries : Mt P w K mg base A.Piece "tell_entries" 2 ["self"] (spC0 A K .entries)) :
    FnOk P w K mg base CX0 9 f fd ["piece", "call", "numbers"] (spCall A K) := by
  refine F.ok sc_answer_call (fun vs H Q E h => ?_) (fun cdv A' outer s H vs Q E hr h => ?_)
  · obtain ⟨p, b, d, q, rfl, _⟩ := h
    rfl
  · obtain ⟨p, b, ⟨c, ns⟩, q, rfl, hB, hn, hq, res⟩ := h
    obtain ⟨Z, st, hP, hZ, go⟩ := id res
    obtain ⟨dx, vS, vC, N, pr, c1, d1, h⟩ := id hP
    have nl : ∀ {k : Str}, ((["tonic", "subject", "counter", "entries", "prices"] : List Str).all fun g => !(k == g)) = true → (piF st.tonic vS vC N pr).lookup k = none := fun h => piF_no _ _ _ _ _ h
    refine ⟨_, (pss_cons (ps_if (pt_cmpR op_eq (pv 1) (pe_cst (by rfl) T.c_SUBJECT_CALL) (nomark _)) (pss_one (ps_ret (pe_mt (pv 0) T.cl_Piece C_Piece_take_subject (hr.mono (by decide)) (pa_cons (pe_ix ix_list (pv 2) pe_int (fun _ _ => rfl)) (pa_cons (pe_slice sl_list (pv 2) (po_some pe_int) po_none) pa_nil))))) pss_nil)
      (pss_cons (ps_if (pt_cmpR op_eq (pv 1) (pe_cst (by rfl) T.c_COUNTER_CALL) (nomark _)) (pss_one (ps_ret (pe_mt (pv 0) T.cl_Piece C_Piece_take_counter (hr.mono (by decide)) (pa_cons (pv 2) pa_nil)))) pss_nil)
      (pss_cons (ps_if (pt_cmpR op_eq (pv 1) (pe_cst (by rfl) T.c_PRICES_CALL) (nomark _)) (pss_one (ps_ret (pe_mt (pv 0) T.cl_Piece C_Piece_take_prices (hr.mono (by decide)) (pa_cons (pv 2) pa_nil)))) pss_nil)
      (pss_cons (ps_if (pt_cmpR op_eq (pv 1) (pe_cst (by rfl) T.c_ANSWER_CALL) (nomark _)) (pss_one (ps_ret (pe_mt0 (pv 0) T.cl_Piece C_Piece_tell_answer (hr.mono (by decide))))) pss_nil)
      (pss_cons (ps_if (pt_cmpR op_eq (pv 1) (pe_cst (by rfl) T.c_LINE_CALL) (nomark _)) (pss_one (ps_ret (pe_mt (pv 0) T.cl_Piece C_Piece_tell_line (hr.mono (by decide)) (pa_cons (pe_ix ix_list (pv 2) pe_int (fun _ _ => rfl)) pa_nil)))) pss_nil)
      (pss_cons (ps_if (pt_cmpR op_eq (pv 1) (pe_cst (by rfl) T.c_SWAP_CALL) (nomark _)) (pss_one (ps_ret (pe_mt (pv 0) T.cl_Piece C_Piece_tell_swap (hr.mono (by decide)) (pa_cons (pe_ix ix_list (pv 2) pe_int (fun _ _ => rfl)) pa_nil)))) pss_nil)
      (pss_cons (ps_if (pt_cmpR op_eq (pv 1) (pe_cst (by rfl) T.c_SWAPS_CALL) (nomark _)) (pss_one (ps_ret (pe_mt0 (pv 0) T.cl_Piece C_Piece_tell_swaps (hr.mono (by decide))))) pss_nil)
      (pss_cons (ps_if (pt_cmpR op_eq (pv 1) (pe_cst (by rfl) T.c_ENTER_CALL) (nomark _)) (pss_one (ps_ret (pe_mt (pv 0) T.cl_Piece C_Piece_take_entry (hr.mono (by decide)) (pa_cons (pe_ix ix_list (pv 2) pe_int (fun _ _ => rfl)) (pa_cons (pe_ix ix_list (pv 2) pe_int (fun _ _ => rfl)) (pa_cons (pe_ix ix_list (pv 2) pe_int (fun _ _ => rfl)) (pa_cons (pe_ix ix_list (pv 2) pe_int (fun _ _ => rfl)) pa_nil))))))) pss_nil)
      (pss_cons (ps_if (pt_cmpR op_eq (pv 1) (pe_cst (by rfl) T.c_BEST_CALL) (nomark _)) (pss_one (ps_ret (pe_mt (pv 0) T.cl_Piece C_Piece_tell_best (hr.mono (by decide)) (pa_cons (pe_ix ix_list (pv 2) pe_int (fun _ _ => rfl)) (pa_cons (pe_ix ix_list (pv 2) pe_int (fun _ _ => rfl)) (pa_cons (pe_ix ix_list (pv 2) pe_int (fun _ _ => rfl)) pa_nil)))))) pss_nil)
      (pss_cons (ps_if (pt_cmpR op_eq (pv 1) (pe_cst (by rfl) T.c_DROP_CALL) (nomark _)) (pss_one (ps_ret (pe_mt0 (pv 0) T.cl_Piece C_Piece_drop_entry (hr.mono (by decide))))) pss_nil)
      (pss_cons (ps_if (pt_cmpR op_eq (pv 1) (pe_cst (by rfl) T.c_COST_CALL) (nomark _)) (pss_one (ps_ret (pe_mt0 (pv 0) T.cl_Piece C_Piece_tell_cost (hr.mono (by decide))))) pss_nil)
      (pss_cons (ps_if (pt_cmpR op_eq (pv 1) (pe_cst (by rfl) T.c_BAD_CALL) (nomark _)) (pss_one (ps_ret (pe_mt (pv 0) T.cl_Piece C_Piece_tell_bad (hr.mono (by decide)) (pa_cons (pe_ix ix_list (pv 2) pe_int (fun _ _ => rfl)) (pa_cons (pe_ix ix_list (pv 2) pe_int (fun _ _ => rfl)) pa_nil))))) pss_nil)
      (pss_cons (ps_if (pt_cmpR op_eq (pv 1) (pe_cst (by rfl) T.c_ENTRIES_CALL) (nomark _)) (pss_one (ps_ret (pe_mt0 (pv 0) T.cl_Piece C_Piece_tell_entries (hr.mono (by decide))))) pss_nil)
      (pss_one ps_never)))))))))))))), ?_⟩
    dsimp only at hB hn hq
    rcases call_cases hq with ⟨rfl, t, r, rfl, rfl⟩ | ⟨rfl, rfl⟩ | ⟨rfl, hl, rfl⟩ | ⟨rfl, rfl⟩ | ⟨rfl, k, rfl, rfl⟩ | ⟨rfl, k, rfl, rfl⟩ | ⟨rfl, rfl⟩ | ⟨rfl, k, t, o, v, rfl, rfl⟩ | ⟨rfl, k, t, v, rfl, rfl⟩ | ⟨rfl, rfl⟩ | ⟨rfl, rfl⟩ | ⟨rfl, i, j, rfl, rfl⟩ | ⟨rfl, rfl⟩
    · refine a_test (v_eqI (val_var rfl) val_c) _ (if_b (fun _ => ?_) fun c => absurd rfl (of_decide_eq_false c))
      refine ⟨_, rfl, p, dx, _, rfl, h.obj, nl (by decide +kernel), ?_⟩
      refine v_ixL (val_var rfl) val_c (SqL.of hB) atI0 _ ?_
      refine ⟨_, rfl, _, rfl, b, _, rfl, SqL.of hB, fun z nz => ?_⟩
      have e1 : cutV ((t :: r).map V.int) (some 1) none = r.map V.int := by
        rw [show (1 : Int) = ((1 : Nat) : Int) from rfl, cut_lo]
        rfl
      rw [e1]
      have sz := same_new (o := HO.lst (r.map V.int)) nz
      refine ⟨p, t, z, r, rfl, upd_same, by rw [List.length_cons] at hn; omega, Z, st, hP.same sz, fun y hy => ?_, Res.mono sz go⟩
      obtain ⟨o, e⟩ := Option.ne_none_iff_exists'.mp (hZ y hy)
      rw [sz _ _ e]
      exact fun e => by cases e
    · refine a_test (v_eqI (val_var rfl) val_c) _ (if_b (fun c => absurd (of_decide_eq_true c) (by dsimp only; decide)) fun _ => ?_)
      refine a_test (v_eqI (val_var rfl) val_c) _ (if_b (fun _ => ?_) fun c => absurd rfl (of_decide_eq_false c))
      refine ⟨_, rfl, p, dx, _, rfl, h.obj, nl (by decide +kernel), ?_⟩
      exact ⟨_, rfl, p, b, ns, rfl, hB, Nat.zero_le _, by omega, res⟩
    · refine a_test (v_eqI (val_var rfl) val_c) _ (if_b (fun c => absurd (of_decide_eq_true c) (by dsimp only; decide)) fun _ => ?_)
      refine a_test (v_eqI (val_var rfl) val_c) _ (if_b (fun c => absurd (of_decide_eq_true c) (by dsimp only; decide)) fun _ => ?_)
      refine a_test (v_eqI (val_var rfl) val_c) _ (if_b (fun _ => ?_) fun c => absurd rfl (of_decide_eq_false c))
      refine ⟨_, rfl, p, dx, _, rfl, h.obj, nl (by decide +kernel), ?_⟩
      exact ⟨_, rfl, p, b, ns, rfl, hB, by omega, by omega, res⟩
    · refine a_test (v_eqI (val_var rfl) val_c) _ (if_b (fun c => absurd (of_decide_eq_true c) (by dsimp only; decide)) fun _ => ?_)
      refine a_test (v_eqI (val_var rfl) val_c) _ (if_b (fun c => absurd (of_decide_eq_true c) (by dsimp only; decide)) fun _ => ?_)
      refine a_test (v_eqI (val_var rfl) val_c) _ (if_b (fun c => absurd (of_decide_eq_true c) (by dsimp only; decide)) fun _ => ?_)
      refine a_test (v_eqI (val_var rfl) val_c) _ (if_b (fun _ => ?_) fun c => absurd rfl (of_decide_eq_false c))
      refine ⟨_, rfl, p, dx, _, rfl, h.obj, nl (by decide +kernel), ?_⟩
      exact ⟨p, rfl, res⟩
    · refine a_test (v_eqI (val_var rfl) val_c) _ (if_b (fun c => absurd (of_decide_eq_true c) (by dsimp only; decide)) fun _ => ?_)
      refine a_test (v_eqI (val_var rfl) val_c) _ (if_b (fun c => absurd (of_decide_eq_true c) (by dsimp only; decide)) fun _ => ?_)
      refine a_test (v_eqI (val_var rfl) val_c) _ (if_b (fun c => absurd (of_decide_eq_true c) (by dsimp only; decide)) fun _ => ?_)
      refine a_test (v_eqI (val_var rfl) val_c) _ (if_b (fun c => absurd (of_decide_eq_true c) (by dsimp only; decide)) fun _ => ?_)
      refine a_test (v_eqI (val_var rfl) val_c) _ (if_b (fun _ => ?_) fun c => absurd rfl (of_decide_eq_false c))
      refine ⟨_, rfl, p, dx, _, rfl, h.obj, nl (by decide +kernel), ?_⟩
      refine v_ixL (val_var rfl) val_c (SqL.of hB) atI0 _ ?_
      exact ⟨p, k, rfl, res⟩
    · refine a_test (v_eqI (val_var rfl) val_c) _ (if_b (fun c => absurd (of_decide_eq_true c) (by dsimp only; decide)) fun _ => ?_)
      refine a_test (v_eqI (val_var rfl) val_c) _ (if_b (fun c => absurd (of_decide_eq_true c) (by dsimp only; decide)) fun _ => ?_)
      refine a_test (v_eqI (val_var rfl) val_c) _ (if_b (fun c => absurd (of_decide_eq_true c) (by dsimp only; decide)) fun _ => ?_)
      refine a_test (v_eqI (val_var rfl) val_c) _ (if_b (fun c => absurd (of_decide_eq_true c) (by dsimp only; decide)) fun _ => ?_)
      refine a_test (v_eqI (val_var rfl) val_c) _ (if_b (fun c => absurd (of_decide_eq_true c) (by dsimp only; decide)) fun _ => ?_)
      refine a_test (v_eqI (val_var rfl) val_c) _ (if_b (fun _ => ?_) fun c => absurd rfl (of_decide_eq_false c))
      refine ⟨_, rfl, p, dx, _, rfl, h.obj, nl (by decide +kernel), ?_⟩
      refine v_ixL (val_var rfl) val_c (SqL.of hB) atI0 _ ?_
      exact ⟨p, k, rfl, res⟩
    · refine a_test (v_eqI (val_var rfl) val_c) _ (if_b (fun c => absurd (of_decide_eq_true c) (by dsimp only; decide)) fun _ => ?_)
      refine a_test (v_eqI (val_var rfl) val_c) _ (if_b (fun c => absurd (of_decide_eq_true c) (by dsimp only; decide)) fun _ => ?_)
      refine a_test (v_eqI (val_var rfl) val_c) _ (if_b (fun c => absurd (of_decide_eq_true c) (by dsimp only; decide)) fun _ => ?_)
      refine a_test (v_eqI (val_var rfl) val_c) _ (if_b (fun c => absurd (of_decide_eq_true c) (by dsimp only; decide)) fun _ => ?_)
      refine a_test (v_eqI (val_var rfl) val_c) _ (if_b (fun c => absurd (of_decide_eq_true c) (by dsimp only; decide)) fun _ => ?_)
      refine a_test (v_eqI (val_var rfl) val_c) _ (if_b (fun c => absurd (of_decide_eq_true c) (by dsimp only; decide)) fun _ => ?_)
      refine a_test (v_eqI (val_var rfl) val_c) _ (if_b (fun _ => ?_) fun c => absurd rfl (of_decide_eq_false c))
      refine ⟨_, rfl, p, dx, _, rfl, h.obj, nl (by decide +kernel), ?_⟩
      exact ⟨p, rfl, res⟩
    · refine a_test (v_eqI (val_var rfl) val_c) _ (if_b (fun c => absurd (of_decide_eq_true c) (by dsimp only; decide)) fun _ => ?_)
      refine a_test (v_eqI (val_var rfl) val_c) _ (if_b (fun c => absurd (of_decide_eq_true c) (by dsimp only; decide)) fun _ => ?_)
      refine a_test (v_eqI (val_var rfl) val_c) _ (if_b (fun c => absurd (of_decide_eq_true c) (by dsimp only; decide)) fun _ => ?_)
      refine a_test (v_eqI (val_var rfl) val_c) _ (if_b (fun c => absurd (of_decide_eq_true c) (by dsimp only; decide)) fun _ => ?_)
      refine a_test (v_eqI (val_var rfl) val_c) _ (if_b (fun c => absurd (of_decide_eq_true c) (by dsimp only; decide)) fun _ => ?_)
      refine a_test (v_eqI (val_var rfl) val_c) _ (if_b (fun c => absurd (of_decide_eq_true c) (by dsimp only; decide)) fun _ => ?_)
      refine a_test (v_eqI (val_var rfl) val_c) _ (if_b (fun c => absurd (of_decide_eq_true c) (by dsimp only; decide)) fun _ => ?_)
      refine a_test (v_eqI (val_var rfl) val_c) _ (if_b (fun _ => ?_) fun c => absurd rfl (of_decide_eq_false c))
      refine ⟨_, rfl, p, dx, _, rfl, h.obj, nl (by decide +kernel), ?_⟩
      refine v_ixL (val_var rfl) val_c (SqL.of hB) atI0 _ ?_
      refine v_ixL (val_var rfl) val_c (SqL.of hB) atI1 _ ?_
      refine v_ixL (val_var rfl) val_c (SqL.of hB) atI2 _ ?_
      refine v_ixL (val_var rfl) val_c (SqL.of hB) atI3 _ ?_
      exact ⟨p, k, t, o, v, rfl, res⟩
    · refine a_test (v_eqI (val_var rfl) val_c) _ (if_b (fun c => absurd (of_decide_eq_true c) (by dsimp only; decide)) fun _ => ?_)
      refine a_test (v_eqI (val_var rfl) val_c) _ (if_b (fun c => absurd (of_decide_eq_true c) (by dsimp only; decide)) fun _ => ?_)
      refine a_test (v_eqI (val_var rfl) val_c) _ (if_b (fun c => absurd (of_decide_eq_true c) (by dsimp only; decide)) fun _ => ?_)
      refine a_test (v_eqI (val_var rfl) val_c) _ (if_b (fun c => absurd (of_decide_eq_true c) (by dsimp only; decide)) fun _ => ?_)
      refine a_test (v_eqI (val_var rfl) val_c) _ (if_b (fun c => absurd (of_decide_eq_true c) (by dsimp only; decide)) fun _ => ?_)
      refine a_test (v_eqI (val_var rfl) val_c) _ (if_b (fun c => absurd (of_decide_eq_true c) (by dsimp only; decide)) fun _ => ?_)
      refine a_test (v_eqI (val_var rfl) val_c) _ (if_b (fun c => absurd (of_decide_eq_true c) (by dsimp only; decide)) fun _ => ?_)
      refine a_test (v_eqI (val_var rfl) val_c) _ (if_b (fun c => absurd (of_decide_eq_true c) (by dsimp only; decide)) fun _ => ?_)
      refine a_test (v_eqI (val_var rfl) val_c) _ (if_b (fun _ => ?_) fun c => absurd rfl (of_decide_eq_false c))
      refine ⟨_, rfl, p, dx, _, rfl, h.obj, nl (by decide +kernel), ?_⟩
      refine v_ixL (val_var rfl) val_c (SqL.of hB) atI0 _ ?_
      refine v_ixL (val_var rfl) val_c (SqL.of hB) atI1 _ ?_
      refine v_ixL (val_var rfl) val_c (SqL.of hB) atI2 _ ?_
      exact ⟨p, k, t, v, rfl, res⟩
    · refine a_test (v_eqI (val_var rfl) val_c) _ (if_b (fun c => absurd (of_decide_eq_true c) (by dsimp only; decide)) fun _ => ?_)
      refine a_test (v_eqI (val_var rfl) val_c) _ (if_b (fun c => absurd (of_decide_eq_true c) (by dsimp only; decide)) fun _ => ?_)
      refine a_test (v_eqI (val_var rfl) val_c) _ (if_b (fun c => absurd (of_decide_eq_true c) (by dsimp only; decide)) fun _ => ?_)
      refine a_test (v_eqI (val_var rfl) val_c) _ (if_b (fun c => absurd (of_decide_eq_true c) (by dsimp only; decide)) fun _ => ?_)
      refine a_test (v_eqI (val_var rfl) val_c) _ (if_b (fun c => absurd (of_decide_eq_true c) (by dsimp only; decide)) fun _ => ?_)
      refine a_test (v_eqI (val_var rfl) val_c) _ (if_b (fun c => absurd (of_decide_eq_true c) (by dsimp only; decide)) fun _ => ?_)
      refine a_test (v_eqI (val_var rfl) val_c) _ (if_b (fun c => absurd (of_decide_eq_true c) (by dsimp only; decide)) fun _ => ?_)
      refine a_test (v_eqI (val_var rfl) val_c) _ (if_b (fun c => absurd (of_decide_eq_true c) (by dsimp only; decide)) fun _ => ?_)
      refine a_test (v_eqI (val_var rfl) val_c) _ (if_b (fun c => absurd (of_decide_eq_true c) (by dsimp only; decide)) fun _ => ?_)
      refine a_test (v_eqI (val_var rfl) val_c) _ (if_b (fun _ => ?_) fun c => absurd rfl (of_decide_eq_false c))
      refine ⟨_, rfl, p, dx, _, rfl, h.obj, nl (by decide +kernel), ?_⟩
      exact ⟨p, rfl, res⟩
    · refine a_test (v_eqI (val_var rfl) val_c) _ (if_b (fun c => absurd (of_decide_eq_true c) (by dsimp only; decide)) fun _ => ?_)
      refine a_test (v_eqI (val_var rfl) val_c) _ (if_b (fun c => absurd (of_decide_eq_true c) (by dsimp only; decide)) fun _ => ?_)
      refine a_test (v_eqI (val_var rfl) val_c) _ (if_b (fun c => absurd (of_decide_eq_true c) (by dsimp only; decide)) fun _ => ?_)
      refine a_test (v_eqI (val_var rfl) val_c) _ (if_b (fun c => absurd (of_decide_eq_true c) (by dsimp only; decide)) fun _ => ?_)
      refine a_test (v_eqI (val_var rfl) val_c) _ (if_b (fun c => absurd (of_decide_eq_true c) (by dsimp only; decide)) fun _ => ?_)
      refine a_test (v_eqI (val_var rfl) val_c) _ (if_b (fun c => absurd (of_decide_eq_true c) (by dsimp only; decide)) fun _ => ?_)
      refine a_test (v_eqI (val_var rfl) val_c) _ (if_b (fun c => absurd (of_decide_eq_true c) (by dsimp only; decide)) fun _ => ?_)
      refine a_test (v_eqI (val_var rfl) val_c) _ (if_b (fun c => absurd (of_decide_eq_true c) (by dsimp only; decide)) fun _ => ?_)
      refine a_test (v_eqI (val_var rfl) val_c) _ (if_b (fun c => absurd (of_decide_eq_true c) (by dsimp only; decide)) fun _ => ?_)
      refine a_test (v_eqI (val_var rfl) val_c) _ (if_b (fun c => absurd (of_decide_eq_true c) (by dsimp only; decide)) fun _ => ?_)
      refine a_test (v_eqI (val_var rfl) val_c) _ (if_b (fun _ => ?_) fun c => absurd rfl (of_decide_eq_false c))
      refine ⟨_, rfl, p, dx, _, rfl, h.obj, nl (by decide +kernel), ?_⟩
      exact ⟨p, rfl, res⟩
    · refine a_test (v_eqI (val_var rfl) val_c) _ (if_b (fun c => absurd (of_decide_eq_true c) (by dsimp only; decide)) fun _ => ?_)
      refine a_test (v_eqI (val_var rfl) val_c) _ (if_b (fun c => absurd (of_decide_eq_true c) (by dsimp only; decide)) fun _ => ?_)
      refine a_test (v_eqI (val_var rfl) val_c) _ (if_b (fun c => absurd (of_decide_eq_true c) (by dsimp only; decide)) fun _ => ?_)
      refine a_test (v_eqI (val_var rfl) val_c) _ (if_b (fun c => absurd (of_decide_eq_true c) (by dsimp only; decide)) fun _ => ?_)
      refine a_test (v_eqI (val_var rfl) val_c) _ (if_b (fun c => absurd (of_decide_eq_true c) (by dsimp only; decide)) fun _ => ?_)
      refine a_test (v_eqI (val_var rfl) val_c) _ (if_b (fun c => absurd (of_decide_eq_true c) (by dsimp only; decide)) fun _ => ?_)
      refine a_test (v_eqI (val_var rfl) val_c) _ (if_b (fun c => absurd (of_decide_eq_true c) (by dsimp only; decide)) fun _ => ?_)
      refine a_test (v_eqI (val_var rfl) val_c) _ (if_b (fun c => absurd (of_decide_eq_true c) (by dsimp only; decide)) fun _ => ?_)
      refine a_test (v_eqI (val_var rfl) val_c) _ (if_b (fun c => absurd (of_decide_eq_true c) (by dsimp only; decide)) fun _ => ?_)
      refine a_test (v_eqI (val_var rfl) val_c) _ (if_b (fun c => absurd (of_decide_eq_true c) (by dsimp only; decide)) fun _ => ?_)
      refine a_test (v_eqI (val_var rfl) val_c) _ (if_b (fun c => absurd (of_decide_eq_true c) (by dsimp only; decide)) fun _ => ?_)
      refine a_test (v_eqI (val_var rfl) val_c) _ (if_b (fun _ => ?_) fun c => absurd rfl (of_decide_eq_false c))
      refine ⟨_, rfl, p, dx, _, rfl, h.obj, nl (by decide +kernel), ?_⟩
      refine v_ixL (val_var rfl) val_c (SqL.of hB) atI0 _ ?_
      refine v_ixL (val_var rfl) val_c (SqL.of hB) atI1 _ ?_
      exact ⟨p, i, j, rfl, res⟩
    · refine a_test (v_eqI (val_var rfl) val_c) _ (if_b (fun c => absurd (of_decide_eq_true c) (by dsimp only; decide)) fun _ => ?_)
      refine a_test (v_eqI (val_var rfl) val_c) _ (if_b (fun c => absurd (of_decide_eq_true c) (by dsimp only; decide)) fun _ => ?_)
      refine a_test (v_eqI (val_var rfl) val_c) _ (if_b (fun c => absurd (of_decide_eq_true c) (by dsimp only; decide)) fun _ => ?_)
      refine a_test (v_eqI (val_var rfl) val_c) _ (if_b (fun c => absurd (of_decide_eq_true c) (by dsimp only; decide)) fun _ => ?_)
      refine a_test (v_eqI (val_var rfl) val_c) _ (if_b (fun c => absurd (of_decide_eq_true c) (by dsimp only; decide)) fun _ => ?_)
      refine a_test (v_eqI (val_var rfl) val_c) _ (if_b (fun c => absurd (of_decide_eq_true c) (by dsimp only; decide)) fun _ => ?_)
      refine a_test (v_eqI (val_var rfl) val_c) _ (if_b (fun c => absurd (of_decide_eq_true c) (by dsimp only; decide)) fun _ => ?_)
      refine a_test (v_eqI (val_var rfl) val_c) _ (if_b (fun c => absurd (of_decide_eq_true c) (by dsimp only; decide)) fun _ => ?_)
      refine a_test (v_eqI (val_var rfl) val_c) _ (if_b (fun c => absurd (of_decide_eq_true c) (by dsimp only; decide)) fun _ => ?_)
      refine a_test (v_eqI (val_var rfl) val_c) _ (if_b (fun c => absurd (of_decide_eq_true c) (by dsimp only; decide)) fun _ => ?_)
      refine a_test (v_eqI (val_var rfl) val_c) _ (if_b (fun c => absurd (of_decide_eq_true c) (by dsimp only; decide)) fun _ => ?_)
      refine a_test (v_eqI (val_var rfl) val_c) _ (if_b (fun c => absurd (of_decide_eq_true c) (by dsimp only; decide)) fun _ => ?_)
      refine a_test (v_eqI (val_var rfl) val_c) _ (if_b (fun _ => ?_) fun c => absurd rfl (of_decide_eq_false c))
      refine ⟨_, rfl, p, dx, _, rfl, h.obj, nl (by decide +kernel), ?_⟩
      exact ⟨p, rfl, res⟩
end
end Fa

set_option Elab.async false
set_option linter.all false
set_option maxRecDepth 100000
set_option maxHeartbeats 4000000
namespace Fa
open PySem PySem.Spec PyProof.Rows L2
open Cp07 (Line Voice Table)
open Cp08 (Desk)
theorem told_more {ds : List Cll} {i : Nat} {d : Cll} (h : ds[i]? = some d) (s : Cp08.State) : toldD s (ds.take (i + 1)) = toldD s (ds.take i) ++ (((stepD (stateD s (ds.take i)) d).2.length : Int) :: (stepD (stateD s (ds.take i)) d).2) := by
  rw [take_more h, toldD_append]
  show _ ++ (((stepD (stateD s (ds.take i)) d).2.length : Int) :: ((stepD (stateD s (ds.take i)) d).2 ++ [])) = _
  rw [List.append_nil]
theorem state_more {ds : List Cll} {i : Nat} {d : Cll} (h : ds[i]? = some d) (s : Cp08.State) : stateD s (ds.take (i + 1)) = (stepD (stateD s (ds.take i)) d).1 := by
  rw [take_more h, stateD_append]
  rfl
theorem told_le (ds : List Cll) (i : Nat) (s : Cp08.State) : (toldD s (ds.take i)).length ≤ (toldD s ds).length := by
  have e : toldD s ds = toldD s (ds.take i) ++ toldD (stateD s (ds.take i)) (ds.drop i) := by rw [← toldD_append, List.take_append_drop]
  rw [e, List.length_append]
  omega
section
variable {P : Program} {w : World} {K : PySem.W.Frag} {mg : Str → Option Value} {base : Heap} {A : At} {f : Addr} {fd : FuncData}
def spAns (K : PySem.W.Frag) : Sp := fun vs H Q _ => ∃ (a : Addr) (ds : List Cll), vs = [.ref a] ∧ SqL K H a ((encAll ds).map V.int) ∧ ds.length ≤ 60 ∧ (∀ d ∈ ds, (Cp08Neutral.callOf (d.1 :: d.2)).isSome = true ∧ d.2.length ≤ 59) ∧ (toldD Cp08.start ds).length ≤ 10000000 ∧
  ∀ (H' : Hp) p, H' p = some (.lst ((toldD Cp08.start ds).map V.int)) → Q (.ref p) H'
theorem ok_answers (F : Fun K "answers" "answers" s_answers f fd) (T : Txt K mg A) (C_Piece_init : Nw P w K mg base "Piece" A.Piece 3 ["self"] (spPcInit A K)) (C_read_calls : Fn P w K mg base "read_calls" 1 ["calls"] (spReadCalls K))
    (C_answer_call : Fn P w K mg base "answer_call" 9 ["piece", "call", "numbers"] (spCall A K)) : FnOk P w K mg base CX0 10 f fd ["calls"] (spAns K) := by
  refine F.ok sc_answers (fun vs H Q E h => ?_) (fun cdv A' outer s H vs Q E hr h => ?_)
  · obtain ⟨a, ds, rfl, _⟩ := h
    rfl
  · obtain ⟨a, ds, rfl, hA, h60, hds, hlen, go⟩ := h
    refine ⟨_, (pss_cons (ps_set (i := 1) sc_answers.nd rfl (Or.inl rfl) (pe_new0 C_Piece_init (hr.mono (by decide)) (by rfl)))
      (pss_cons (ps_set (i := 2) sc_answers.nd rfl (Or.inl rfl) (pe_lst pa_nil))
      (pss_cons (ps_for PassesOwn.never rfl (pi_list (pe_fn C_read_calls (hr.mono (by decide)) (by rfl) (pa_cons (pv 0) pa_nil))) (pg_tup rfl (pgs_cons (pg_name (i := 3) sc_answers.nd rfl (Or.inl rfl)) (pgs_cons (pg_name (i := 4) sc_answers.nd rfl (Or.inl rfl)) pgs_nil))) (pss_cons (ps_set (i := 5) sc_answers.nd rfl (Or.inl rfl) (pe_fn C_answer_call (hr.mono (by decide)) (by rfl) (pa_cons (pv 1) (pa_cons (pv 3) (pa_cons (pv 4) pa_nil)))))
      (pss_cons (ps_expr (pe_bm PySem.F.plainAttrs_list PySem.F.slot_list_append PySem.F.type_list_append mt_append (pv 2) (pa_cons (pe_callB call_len_seq (by rfl) T.b_len (by decide +kernel) (pa_cons (pv 5) pa_nil)) pa_nil)))
      (pss_one (ps_expr (pe_bm PySem.F.plainAttrs_list PySem.F.slot_list_extend PySem.F.type_list_extend mt_extend (pv 2) (pa_cons (pv 5) pa_nil)))))))
      (pss_one (ps_ret (pv 2)))))), ?_⟩
    -- piece = Piece()
    intro p dx np nd ne
    refine ⟨p, dx, rfl, upd_same, fun H1 mkP k1 => ⟨rfl, ?_⟩⟩
    have s1 : Same H H1 := Same.made np nd k1
    -- told = []
    refine ⟨Nat.zero_le _, fun o no => ?_⟩
    have so := same_new (o := HO.lst []) no
    -- read_calls(calls)
    refine ⟨_, rfl, a, ds, rfl, (s1.trans so).seq hA, h60, fun H2 g s2 ng hL => ?_⟩
    obtain ⟨vs, hg, hV⟩ := hL
    generalize hZ : (fun z : Addr => H1 z = none ∧ H2 z ≠ none) = Z
    have zi : ∀ z, H1 z = none → H2 z ≠ none → Z z := fun z a b => by
      rw [← hZ]
      exact ⟨a, b⟩
    have ze : ∀ z, Z z → H1 z = none ∧ H2 z ≠ none := fun z h => by
      rw [← hZ] at h
      exact h
    have hP2 : PieceAt A K Z H2 p Cp08.start := ((mkP Z fun z h => (ze z h).1).same so).same s2
    have ho2 : H2 o = some (.lst []) := s2 _ _ upd_same
    have zo : Z o := zi o no (by rw [ho2]; exact fun e => by cases e)
    have ngo : g ≠ o := fun e => by
      rw [e, upd_same] at ng
      cases ng
    have zg : Z g := zi g (so.free ng) (by rw [hg]; exact fun e => by cases e)
    refine ⟨g, rfl, ⟨_, SqL.of hg⟩, ?_⟩
    refine for_list (K := K) (a := g) (xs := vs) (fun i σ H' => ∃ v3 v4 v5 : Option V, σ = [some (.ref a), some (.ref p), some (.ref o), v3, v4, v5] ∧ PieceAt A K Z H' p (stateD Cp08.start (ds.take i)) ∧ (∀ b x, H2 b = some x → Z b → b ≠ o → H' b = some x) ∧ H' o = some (.lst ((toldD Cp08.start (ds.take i)).map V.int)))
      ⟨none, none, none, rfl, hP2, fun b x hb _ _ => hb, ho2⟩ (fun i σ H' _ ⟨_, _, _, _, _, kz, _⟩ => SqL.of (kz _ _ hg zg ngo)) ?_ ?_
    · rintro i x σ H3 hx ⟨v3, v4, v5, rfl, hP3, kz, hO⟩
      obtain ⟨d, hd, q, b, rfl, hq, hb, nb, nbg, nq⟩ := hV.2 i x hx
      have zq : Z q := zi q (so.free nq) (by rw [hq]; exact fun e => by cases e)
      have zb : Z b := zi b (so.free nb) (by rw [hb]; exact fun e => by cases e)
      have nqo : q ≠ o := fun e => by
        rw [e, upd_same] at nq
        cases nq
      have nbo : b ≠ o := fun e => by
        rw [e, upd_same] at nb
        cases nb
      have hq3 := kz _ _ hq zq nqo
      have hb3 := kz _ _ hb zb nbo
      obtain ⟨hsome, h59⟩ := hds d (List.mem_of_getElem? hd)
      obtain ⟨c, hc⟩ := Option.isSome_iff_exists.mp hsome
      have eSt := state_more hd Cp08.start
      have eTo := told_more hd Cp08.start
      generalize stateD Cp08.start (ds.take i) = st at hP3 eSt eTo
      have hle : (toldD Cp08.start (ds.take (i + 1))).length ≤ 10000000 := Nat.le_trans (told_le ds (i + 1) _) hlen
      rw [eTo, List.length_append, List.length_cons] at hle
      generalize toldD Cp08.start (ds.take i) = tl at hO eTo hle
      have hZ3 : ∀ z, Z z → H3 z ≠ none := fun z hz => by
        by_cases e : z = o
        · rw [e, hO]
          exact fun e => by cases e
        · obtain ⟨ob, eb⟩ := Option.ne_none_iff_exists'.mp (ze z hz).2
          rw [kz _ _ eb hz e]
          exact fun e => by cases e
      have big : (10000000 : Nat) < sizeLine := by decide
      refine ⟨q, _, rfl, SqT.of hq3, rfl, _, _, rfl, _, _, rfl, rfl, ?_⟩
      -- answered = answer_call(piece, call, numbers)
      refine ⟨_, rfl, _, rfl, _, rfl, p, b, d, c, rfl, hb3, h59, hc, Z, st, hP3, hZ3, fun H4 r hP4 k4 nr hr4 => ?_⟩
      rw [stepD_eq hc] at eSt eTo hle
      dsimp only at eSt eTo hle
      generalize (Cp08.step st c).1 = st' at hP4 eSt
      generalize AnsL (Cp08.step st c).2 = ans at hr4 eTo hle
      have hO4 := k4 _ _ hO zo
      have nro : r ≠ o := (ne_of_none hO nr).symm
      -- told.append(len(answered))
      refine ⟨_, rfl, .inl ⟨rfl, _, SqL.of hO4⟩, _, rfl, r, _, rfl, .inl (SqL.of hr4), ?_⟩
      refine ⟨o, _, _, rfl, rfl, hO4, ?_, ?_⟩
      · rw [List.length_map]
        omega
      have m5 : Mut Z H4 (upd H4 o (.lst (tl.map V.int ++ [V.int ((ans.map V.int).length : Int)]))) := mut_upd hO4 zo
      have hP5 := hP4.mut m5
      have hr5 : (upd H4 o (.lst (tl.map V.int ++ [V.int ((ans.map V.int).length : Int)]))) r = some (.lst (ans.map V.int)) := by
        rw [upd_ne nro]
        exact hr4
      have k5 : ∀ y x, H4 y = some x → y ≠ o → (upd H4 o (.lst (tl.map V.int ++ [V.int ((ans.map V.int).length : Int)]))) y = some x := fun y x hy hne => by
        rw [upd_ne hne]
        exact hy
      have hO5 : (upd H4 o (.lst (tl.map V.int ++ [V.int ((ans.map V.int).length : Int)]))) o = some (.lst (tl.map V.int ++ [V.int ((ans.map V.int).length : Int)])) := upd_same
      generalize upd H4 o (.lst (tl.map V.int ++ [V.int ((ans.map V.int).length : Int)])) = H5 at m5 hP5 hr5 k5 hO5
      -- told.extend(answered)
      refine ⟨_, rfl, .inl ⟨rfl, _, SqL.of hO5⟩, _, rfl, o, r, _, _, rfl, rfl, hO5, hr5, ?_, ?_⟩
      · rw [List.length_append, List.length_map, List.length_map, List.length_singleton]
        omega
      · refine ⟨_, _, _, rfl, ?_, fun y x hy hz hne => ?_, ?_⟩
        · rw [eSt]
          exact hP5.mut (mut_upd hO5 zo)
        · rw [upd_ne hne]
          exact k5 _ _ (k4 _ _ (kz _ _ hy hz hne) hz) hne
        · rw [upd_same, eTo, List.map_append, List.length_map, List.append_assoc]
          rfl
    · rintro σ H3 ⟨v3, v4, v5, rfl, hP3, kz, hO⟩
      rw [hV.1, List.take_length] at hO
      exact ⟨_, rfl, go H3 o hO⟩
end
end Fa

set_option Elab.async false
set_option linter.all false
set_option maxRecDepth 100000
set_option maxHeartbeats 4000000
namespace Fa
open PySem PySem.Spec PyProof.Rows L2
/-! ### What the top has left -/
structure FnA (K : PySem.W.Frag) (x : Str) (st : Stmt) (f : Addr) (fd : FuncData) : Prop where
  at_ : PySem.W.nsIn K mainGlobals x = some (some (.ref f))
  fn : Fun K x x st f fd
structure MtA (K : PySem.W.Frag) (C : Addr) (m qual : Str) (st : Stmt) (f : Addr) (fd : FuncData) : Prop where
  at_ : PySem.W.findIn K (.ref C) m = some (some (.ref f))
  isf : PySem.W.isFn K (.ref f) = true
  fn : Fun K m qual st f fd
structure ClsA (K : PySem.W.Frag) (x : Str) (C : Addr) : Prop where
  at_ : PySem.W.nsIn K mainGlobals x = some (some (.ref C))
  cl : Cls K C
  makes : PySem.W.makesIn K C = true
  kp : PySem.W.keepIn K (.ref C) = true
section
variable {K : PySem.W.Frag} {h : Heap} {mg : Str → Option Value}
theorem fnA_ex {x : Str} {st : Stmt} {f : Addr} {oc : Value} {od an : Option Addr} {osl : Array (Option Value)} {kV doc pm cdv ct : Value} (X : K.In h) (a : PySem.W.nsIn K mainGlobals x = some (some (.ref f)))
    (l : K.lookup f = some ⟨oc, od, .func (PySem.W.fnOf x x (defArgs st) (defBody st) (defScope st) .none kV doc pm an cdv ct), osl⟩) (c : PySem.W.codeIn K cdv x = true) (k : PySem.W.keepIn K (.ref f) = true) : ∃ f fd, FnA K x st f fd := ⟨_, _, a, fun_mk l c k⟩
theorem mtA_ex {x m qual : Str} {C : Addr} {st : Stmt} {f : Addr} {oc : Value} {od an : Option Addr} {osl : Array (Option Value)} {kV doc pm cdv ct : Value} (X : ClsA K x C) (a : PySem.W.findIn K (.ref C) m = some (some (.ref f))) (i : PySem.W.isFn K (.ref f) = true)
    (l : K.lookup f = some ⟨oc, od, .func (PySem.W.fnOf m qual (defArgs st) (defBody st) (defScope st) .none kV doc pm an cdv ct), osl⟩) (c : PySem.W.codeIn K cdv qual = true) (k : PySem.W.keepIn K (.ref f) = true) : ∃ f fd, MtA K C m qual st f fd := ⟨_, _, a, i, fun_mk l c k⟩
theorem clsA_mk {x : Str} {C : Addr} (X : K.In h) (a : PySem.W.nsIn K mainGlobals x = some (some (.ref C))) (pg : PySem.W.plainGet K C Str.empty = true) (hd : PySem.W.hasDictIn K C = true) (po : PySem.W.plainOver K C = true)
    (sa : PySem.W.findIn K (.ref C) "__setattr__" = some (some (.builtin "object.__setattr__"))) (mk : PySem.W.makesIn K C = true) (kp : PySem.W.keepIn K (.ref C) = true) : ClsA K x C := ⟨a, ⟨pg, hd, po, sa⟩, mk, kp⟩
theorem noA_mk {x g : Str} {C : Addr} (X : ClsA K x C) (n : PySem.W.findIn K (.ref C) g = some none) : NoAttr K C g := n
theorem cst_mk {x : Str} {n : Int} {t : Nat} (X : K.In h) (G : h.Ns mainGlobals mg) (e : PySem.W.nsIn K mainGlobals x = some (some (.int n t))) : Cst mg x n := ⟨t, PySem.W.mg_of X G e⟩
theorem blt_mk {x : Str} (X : K.In h) (G : h.Ns mainGlobals mg) (e : PySem.W.nsIn K mainGlobals x = some none) : mg x = none := PySem.W.mg_none_of X G e
theorem tup_mk {x : Str} {a : Addr} {xs : List V} {oc : Value} {od : Option Addr} {its : Array Value} {n : Nat} {sl : Array (Option Value)} (X : K.In h) (G : h.Ns mainGlobals mg) (e : PySem.W.nsIn K mainGlobals x = some (some (.ref a))) (l : K.lookup a = some ⟨oc, od, .seq its n, sl⟩)
    (hc : oc = .type "tuple") (hz : its.size ≤ sizeLine) (hv : Vals xs its.toList) : mg x = some (.ref a) ∧ ∀ H : Hp, SqT K H a xs := ⟨PySem.W.mg_of X G e, fun H => .inr ⟨_, its, n, l, hc, rfl, hz, hv⟩⟩
end
structure Defs (K : PySem.W.Frag) (A : At) : Prop where
  k_Moment : ClsA K "Moment" A.Moment
  k_Entry : ClsA K "Entry" A.Entry
  k_Prices : ClsA K "Prices" A.Prices
  k_Piece : ClsA K "Piece" A.Piece
  d_is_step : ∃ f fd, FnA K "is_step" s_is_step f fd
  d_is_length : ∃ f fd, FnA K "is_length" s_is_length f fd
  d_read_event : ∃ f fd, FnA K "read_event" s_read_event f fd
  d_read_events : ∃ f fd, FnA K "read_events" s_read_events f fd
  d_tell_events : ∃ f fd, FnA K "tell_events" s_tell_events f fd
  d_line_length : ∃ f fd, FnA K "line_length" s_line_length f fd
  d_degree : ∃ f fd, FnA K "degree" s_degree f fd
  d_head_size : ∃ f fd, FnA K "head_size" s_head_size f fd
  d_raised_event : ∃ f fd, FnA K "raised_event" s_raised_event f fd
  d_raised : ∃ f fd, FnA K "raised" s_raised f fd
  d_is_dominant : ∃ f fd, FnA K "is_dominant" s_is_dominant f fd
  d_answer_of : ∃ f fd, FnA K "answer_of" s_answer_of f fd
  d_changed_by_answer : ∃ f fd, FnA K "changed_by_answer" s_changed_by_answer f fd
  d_Moment_init : ∃ f fd, MtA K A.Moment "__init__" "Moment.__init__" s_Moment_init f fd
  d_Moment_is_meeting : ∃ f fd, MtA K A.Moment "is_meeting" "Moment.is_meeting" s_Moment_is_meeting f fd
  d_Moment_gap : ∃ f fd, MtA K A.Moment "gap" "Moment.gap" s_Moment_gap f fd
  d_placed : ∃ f fd, FnA K "placed" s_placed f fd
  d_step_at : ∃ f fd, FnA K "step_at" s_step_at f fd
  d_moments_of : ∃ f fd, FnA K "moments_of" s_moments_of f fd
  d_meetings_of : ∃ f fd, FnA K "meetings_of" s_meetings_of f fd
  d_are_parallels : ∃ f fd, FnA K "are_parallels" s_are_parallels f fd
  d_meeting_costs : ∃ f fd, FnA K "meeting_costs" s_meeting_costs f fd
  d_voices_cost : ∃ f fd, FnA K "voices_cost" s_voices_cost f fd
  d_times_above : ∃ f fd, FnA K "times_above" s_times_above f fd
  d_Entry_init : ∃ f fd, MtA K A.Entry "__init__" "Entry.__init__" s_Entry_init f fd
  d_Entry_numbers_told : ∃ f fd, MtA K A.Entry "numbers_told" "Entry.numbers_told" s_Entry_numbers_told f fd
  d_is_place : ∃ f fd, FnA K "is_place" s_is_place f fd
  d_overlap : ∃ f fd, FnA K "overlap" s_overlap f fd
  d_cost_against : ∃ f fd, FnA K "cost_against" s_cost_against f fd
  d_cost_of_all : ∃ f fd, FnA K "cost_of_all" s_cost_of_all f fd
  d_bad_meetings : ∃ f fd, FnA K "bad_meetings" s_bad_meetings f fd
  d_Prices_init : ∃ f fd, MtA K A.Prices "__init__" "Prices.__init__" s_Prices_init f fd
  d_Prices_gap_price : ∃ f fd, MtA K A.Prices "gap_price" "Prices.gap_price" s_Prices_gap_price f fd
  d_are_prices : ∃ f fd, FnA K "are_prices" s_are_prices f fd
  d_is_kind : ∃ f fd, FnA K "is_kind" s_is_kind f fd
  d_Piece_init : ∃ f fd, MtA K A.Piece "__init__" "Piece.__init__" s_Piece_init f fd
  d_Piece_take_subject : ∃ f fd, MtA K A.Piece "take_subject" "Piece.take_subject" s_Piece_take_subject f fd
  d_Piece_take_counter : ∃ f fd, MtA K A.Piece "take_counter" "Piece.take_counter" s_Piece_take_counter f fd
  d_Piece_take_prices : ∃ f fd, MtA K A.Piece "take_prices" "Piece.take_prices" s_Piece_take_prices f fd
  d_Piece_tell_answer : ∃ f fd, MtA K A.Piece "tell_answer" "Piece.tell_answer" s_Piece_tell_answer f fd
  d_Piece_tell_line : ∃ f fd, MtA K A.Piece "tell_line" "Piece.tell_line" s_Piece_tell_line f fd
  d_Piece_tell_swap : ∃ f fd, MtA K A.Piece "tell_swap" "Piece.tell_swap" s_Piece_tell_swap f fd
  d_Piece_tell_swaps : ∃ f fd, MtA K A.Piece "tell_swaps" "Piece.tell_swaps" s_Piece_tell_swaps f fd
  d_Piece_take_entry : ∃ f fd, MtA K A.Piece "take_entry" "Piece.take_entry" s_Piece_take_entry f fd
  d_Piece_tell_best : ∃ f fd, MtA K A.Piece "tell_best" "Piece.tell_best" s_Piece_tell_best f fd
  d_Piece_drop_entry : ∃ f fd, MtA K A.Piece "drop_entry" "Piece.drop_entry" s_Piece_drop_entry f fd
  d_Piece_tell_cost : ∃ f fd, MtA K A.Piece "tell_cost" "Piece.tell_cost" s_Piece_tell_cost f fd
  d_Piece_tell_bad : ∃ f fd, MtA K A.Piece "tell_bad" "Piece.tell_bad" s_Piece_tell_bad f fd
  d_Piece_tell_entries : ∃ f fd, MtA K A.Piece "tell_entries" "Piece.tell_entries" s_Piece_tell_entries f fd
  d_Piece_is_entry : ∃ f fd, MtA K A.Piece "is_entry" "Piece.is_entry" s_Piece_is_entry f fd
  d_Piece_made_entry : ∃ f fd, MtA K A.Piece "made_entry" "Piece.made_entry" s_Piece_made_entry f fd
  d_Piece_entry_refusal : ∃ f fd, MtA K A.Piece "entry_refusal" "Piece.entry_refusal" s_Piece_entry_refusal f fd
  d_Piece_line_of_kind : ∃ f fd, MtA K A.Piece "line_of_kind" "Piece.line_of_kind" s_Piece_line_of_kind f fd
  d_Piece_lowered_counter : ∃ f fd, MtA K A.Piece "lowered_counter" "Piece.lowered_counter" s_Piece_lowered_counter f fd
  d_Piece_cost_lowered : ∃ f fd, MtA K A.Piece "cost_lowered" "Piece.cost_lowered" s_Piece_cost_lowered f fd
  d_Piece_times_still_above : ∃ f fd, MtA K A.Piece "times_still_above" "Piece.times_still_above" s_Piece_times_still_above f fd
  d_read_calls : ∃ f fd, FnA K "read_calls" s_read_calls f fd
  d_answer_call : ∃ f fd, FnA K "answer_call" s_answer_call f fd
  d_answers : ∃ f fd, FnA K "answers" s_answers f fd
theorem all_mk {P : Program} {w : World} {K : PySem.W.Frag} {h : Heap} {mg : Str → Option Value} {fa : Addr} {A : At} (X : K.In h) (G : h.Ns mainGlobals mg) (hfa : mg "answers" = some (.ref fa)) (T : Txt K mg A) (D : Defs K A) :
    ∃ fd : FuncData, (∀ (s : Shared) (us : List Value), us.length = (["calls"] : List Str).length → BindsTo s fd ⟨us, []⟩ ((["calls"] : List Str).zip us)) ∧ ∀ base : Heap, K.In base → base.Ns mainGlobals mg → FnOk P w K mg base CX0 10 fa fd ["calls"] (spAns K) := by
  obtain ⟨f0, fd0, a0, F0⟩ := D.d_answers
  have e := hfa.symm.trans (PySem.W.mg_of X G a0)
  cases e
  obtain ⟨oc, od, kV, doc, pm, an, cdv, ct, osl, rfl, lk, hcd⟩ := id F0.ex
  refine ⟨PySem.W.fnOf "answers" "answers" (defArgs s_answers) (defBody s_answers) (defScope s_answers) .none kV doc pm an cdv ct, fun s us hu => match us, hu with | [_], _ => .of_eq rfl, fun base _ _ => ?_⟩
  obtain ⟨f_is_step, fd_is_step, a_is_step, F_is_step⟩ := D.d_is_step
  have b_is_step := F_is_step.binds (ps := ["number"]) fun _ _ _ _ _ _ us hl => match us, hl with | [_], _ => rfl
  have C_is_step : Fn P w K mg base "is_step" 1 ["number"] (spIn 0 69) := ⟨f_is_step, fd_is_step, PySem.W.mg_of X G a_is_step, F_is_step.kp, b_is_step, ok_is_step F_is_step T⟩
  obtain ⟨f_is_length, fd_is_length, a_is_length, F_is_length⟩ := D.d_is_length
  have b_is_length := F_is_length.binds (ps := ["number"]) fun _ _ _ _ _ _ us hl => match us, hl with | [_], _ => rfl
  have C_is_length : Fn P w K mg base "is_length" 1 ["number"] (spIn 1 512) := ⟨f_is_length, fd_is_length, PySem.W.mg_of X G a_is_length, F_is_length.kp, b_is_length, ok_is_length F_is_length T⟩
  obtain ⟨f_tell_events, fd_tell_events, a_tell_events, F_tell_events⟩ := D.d_tell_events
  have b_tell_events := F_tell_events.binds (ps := ["events"]) fun _ _ _ _ _ _ us hl => match us, hl with | [_], _ => rfl
  have C_tell_events : Fn P w K mg base "tell_events" 1 ["events"] spTell := ⟨f_tell_events, fd_tell_events, PySem.W.mg_of X G a_tell_events, F_tell_events.kp, b_tell_events, ok_tell_events F_tell_events T⟩
  obtain ⟨f_line_length, fd_line_length, a_line_length, F_line_length⟩ := D.d_line_length
  have b_line_length := F_line_length.binds (ps := ["events"]) fun _ _ _ _ _ _ us hl => match us, hl with | [_], _ => rfl
  have C_line_length : Fn P w K mg base "line_length" 1 ["events"] spLength := ⟨f_line_length, fd_line_length, PySem.W.mg_of X G a_line_length, F_line_length.kp, b_line_length, ok_line_length F_line_length T⟩
  obtain ⟨f_degree, fd_degree, a_degree, F_degree⟩ := D.d_degree
  have b_degree := F_degree.binds (ps := ["step", "tonic"]) fun _ _ _ _ _ _ us hl => match us, hl with | [_, _], _ => rfl
  have C_degree : Fn P w K mg base "degree" 1 ["step", "tonic"] spDegree := ⟨f_degree, fd_degree, PySem.W.mg_of X G a_degree, F_degree.kp, b_degree, ok_degree F_degree T⟩
  obtain ⟨f_raised_event, fd_raised_event, a_raised_event, F_raised_event⟩ := D.d_raised_event
  have b_raised_event := F_raised_event.binds (ps := ["event", "steps"]) fun _ _ _ _ _ _ us hl => match us, hl with | [_, _], _ => rfl
  have C_raised_event : Fn P w K mg base "raised_event" 1 ["event", "steps"] spRaisedE := ⟨f_raised_event, fd_raised_event, PySem.W.mg_of X G a_raised_event, F_raised_event.kp, b_raised_event, ok_raised_event F_raised_event T⟩
  obtain ⟨f_Moment_init, fd_Moment_init, a_Moment_init, i_Moment_init, F_Moment_init⟩ := D.d_Moment_init
  have b_Moment_init := F_Moment_init.binds (ps := ["self", "time", "first", "second"]) fun _ _ _ _ _ _ us hl => match us, hl with | [_, _, _, _], _ => rfl
  have C_Moment_init : Nw P w K mg base "Moment" A.Moment 1 ["self", "time", "first", "second"] (spMoInit A) := ⟨f_Moment_init, fd_Moment_init, PySem.W.mg_of X G D.k_Moment.at_, ⟨D.k_Moment.makes, a_Moment_init, i_Moment_init, D.k_Moment.kp⟩, b_Moment_init, ok_Moment_init F_Moment_init T⟩
  obtain ⟨f_Moment_is_meeting, fd_Moment_is_meeting, a_Moment_is_meeting, i_Moment_is_meeting, F_Moment_is_meeting⟩ := D.d_Moment_is_meeting
  have b_Moment_is_meeting := F_Moment_is_meeting.binds (ps := ["self"]) fun _ _ _ _ _ _ us hl => match us, hl with | [_], _ => rfl
  have C_Moment_is_meeting : Mt P w K mg base A.Moment "is_meeting" 1 ["self"] (spIsMeeting A) := ⟨f_Moment_is_meeting, fd_Moment_is_meeting, ⟨a_Moment_is_meeting, i_Moment_is_meeting, F_Moment_is_meeting.kp⟩, b_Moment_is_meeting, ok_is_meeting F_Moment_is_meeting T⟩
  obtain ⟨f_Moment_gap, fd_Moment_gap, a_Moment_gap, i_Moment_gap, F_Moment_gap⟩ := D.d_Moment_gap
  have b_Moment_gap := F_Moment_gap.binds (ps := ["self"]) fun _ _ _ _ _ _ us hl => match us, hl with | [_], _ => rfl
  have C_Moment_gap : Mt P w K mg base A.Moment "gap" 1 ["self"] (spGap A) := ⟨f_Moment_gap, fd_Moment_gap, ⟨a_Moment_gap, i_Moment_gap, F_Moment_gap.kp⟩, b_Moment_gap, ok_gap F_Moment_gap T⟩
  obtain ⟨f_placed, fd_placed, a_placed, F_placed⟩ := D.d_placed
  have b_placed := F_placed.binds (ps := ["events", "start"]) fun _ _ _ _ _ _ us hl => match us, hl with | [_, _], _ => rfl
  have C_placed : Fn P w K mg base "placed" 1 ["events", "start"] spPlaced := ⟨f_placed, fd_placed, PySem.W.mg_of X G a_placed, F_placed.kp, b_placed, ok_placed F_placed T⟩
  obtain ⟨f_step_at, fd_step_at, a_step_at, F_step_at⟩ := D.d_step_at
  have b_step_at := F_step_at.binds (ps := ["voice", "time"]) fun _ _ _ _ _ _ us hl => match us, hl with | [_, _], _ => rfl
  have C_step_at : Fn P w K mg base "step_at" 1 ["voice", "time"] spStepAt := ⟨f_step_at, fd_step_at, PySem.W.mg_of X G a_step_at, F_step_at.kp, b_step_at, ok_step_at F_step_at T⟩
  obtain ⟨f_Entry_numbers_told, fd_Entry_numbers_told, a_Entry_numbers_told, i_Entry_numbers_told, F_Entry_numbers_told⟩ := D.d_Entry_numbers_told
  have b_Entry_numbers_told := F_Entry_numbers_told.binds (ps := ["self"]) fun _ _ _ _ _ _ us hl => match us, hl with | [_], _ => rfl
  have C_Entry_numbers_told : Mt P w K mg base A.Entry "numbers_told" 1 ["self"] (spEnTold A) := ⟨f_Entry_numbers_told, fd_Entry_numbers_told, ⟨a_Entry_numbers_told, i_Entry_numbers_told, F_Entry_numbers_told.kp⟩, b_Entry_numbers_told, ok_numbers_told F_Entry_numbers_told T⟩
  obtain ⟨f_is_place, fd_is_place, a_is_place, F_is_place⟩ := D.d_is_place
  have b_is_place := F_is_place.binds (ps := ["time", "octaves", "voice"]) fun _ _ _ _ _ _ us hl => match us, hl with | [_, _, _], _ => rfl
  have C_is_place : Fn P w K mg base "is_place" 1 ["time", "octaves", "voice"] spPlace := ⟨f_is_place, fd_is_place, PySem.W.mg_of X G a_is_place, F_is_place.kp, b_is_place, ok_is_place F_is_place T⟩
  obtain ⟨f_overlap, fd_overlap, a_overlap, F_overlap⟩ := D.d_overlap
  have b_overlap := F_overlap.binds (ps := ["first", "second"]) fun _ _ _ _ _ _ us hl => match us, hl with | [_, _], _ => rfl
  have C_overlap : Fn P w K mg base "overlap" 1 ["first", "second"] (spOverlap A) := ⟨f_overlap, fd_overlap, PySem.W.mg_of X G a_overlap, F_overlap.kp, b_overlap, ok_overlap F_overlap T⟩
  obtain ⟨f_Prices_init, fd_Prices_init, a_Prices_init, i_Prices_init, F_Prices_init⟩ := D.d_Prices_init
  have b_Prices_init := F_Prices_init.binds (ps := ["self", "numbers"]) fun _ _ _ _ _ _ us hl => match us, hl with | [_, _], _ => rfl
  have C_Prices_init : Nw P w K mg base "Prices" A.Prices 1 ["self", "numbers"] (spPrInit A K) := ⟨f_Prices_init, fd_Prices_init, PySem.W.mg_of X G D.k_Prices.at_, ⟨D.k_Prices.makes, a_Prices_init, i_Prices_init, D.k_Prices.kp⟩, b_Prices_init, ok_Prices_init F_Prices_init T⟩
  obtain ⟨f_Prices_gap_price, fd_Prices_gap_price, a_Prices_gap_price, i_Prices_gap_price, F_Prices_gap_price⟩ := D.d_Prices_gap_price
  have b_Prices_gap_price := F_Prices_gap_price.binds (ps := ["self", "time", "gap"]) fun _ _ _ _ _ _ us hl => match us, hl with | [_, _, _], _ => rfl
  have C_Prices_gap_price : Mt P w K mg base A.Prices "gap_price" 1 ["self", "time", "gap"] (spGapPrice A K) := ⟨f_Prices_gap_price, fd_Prices_gap_price, ⟨a_Prices_gap_price, i_Prices_gap_price, F_Prices_gap_price.kp⟩, b_Prices_gap_price, ok_gap_price F_Prices_gap_price T⟩
  obtain ⟨f_are_prices, fd_are_prices, a_are_prices, F_are_prices⟩ := D.d_are_prices
  have b_are_prices := F_are_prices.binds (ps := ["numbers"]) fun _ _ _ _ _ _ us hl => match us, hl with | [_], _ => rfl
  have C_are_prices : Fn P w K mg base "are_prices" 1 ["numbers"] spArePrices := ⟨f_are_prices, fd_are_prices, PySem.W.mg_of X G a_are_prices, F_are_prices.kp, b_are_prices, ok_are_prices F_are_prices T⟩
  obtain ⟨f_is_kind, fd_is_kind, a_is_kind, F_is_kind⟩ := D.d_is_kind
  have b_is_kind := F_is_kind.binds (ps := ["number"]) fun _ _ _ _ _ _ us hl => match us, hl with | [_], _ => rfl
  have C_is_kind : Fn P w K mg base "is_kind" 1 ["number"] (spIn 0 3) := ⟨f_is_kind, fd_is_kind, PySem.W.mg_of X G a_is_kind, F_is_kind.kp, b_is_kind, ok_is_kind F_is_kind T⟩
  obtain ⟨f_Piece_drop_entry, fd_Piece_drop_entry, a_Piece_drop_entry, i_Piece_drop_entry, F_Piece_drop_entry⟩ := D.d_Piece_drop_entry
  have b_Piece_drop_entry := F_Piece_drop_entry.binds (ps := ["self"]) fun _ _ _ _ _ _ us hl => match us, hl with | [_], _ => rfl
  have C_Piece_drop_entry : Mt P w K mg base A.Piece "drop_entry" 1 ["self"] (spC0 A K .drop) := ⟨f_Piece_drop_entry, fd_Piece_drop_entry, ⟨a_Piece_drop_entry, i_Piece_drop_entry, F_Piece_drop_entry.kp⟩, b_Piece_drop_entry, ok_drop_entry F_Piece_drop_entry T⟩
  obtain ⟨f_Piece_is_entry, fd_Piece_is_entry, a_Piece_is_entry, i_Piece_is_entry, F_Piece_is_entry⟩ := D.d_Piece_is_entry
  have b_Piece_is_entry := F_Piece_is_entry.binds (ps := ["self", "number"]) fun _ _ _ _ _ _ us hl => match us, hl with | [_, _], _ => rfl
  have C_Piece_is_entry : Mt P w K mg base A.Piece "is_entry" 1 ["self", "number"] (spIsEntry A K) := ⟨f_Piece_is_entry, fd_Piece_is_entry, ⟨a_Piece_is_entry, i_Piece_is_entry, F_Piece_is_entry.kp⟩, b_Piece_is_entry, ok_is_entry F_Piece_is_entry T⟩
  obtain ⟨f_read_calls, fd_read_calls, a_read_calls, F_read_calls⟩ := D.d_read_calls
  have b_read_calls := F_read_calls.binds (ps := ["calls"]) fun _ _ _ _ _ _ us hl => match us, hl with | [_], _ => rfl
  have C_read_calls : Fn P w K mg base "read_calls" 1 ["calls"] (spReadCalls K) := ⟨f_read_calls, fd_read_calls, PySem.W.mg_of X G a_read_calls, F_read_calls.kp, b_read_calls, ok_read_calls F_read_calls T⟩
  obtain ⟨f_read_event, fd_read_event, a_read_event, F_read_event⟩ := D.d_read_event
  have b_read_event := F_read_event.binds (ps := ["numbers", "at"]) fun _ _ _ _ _ _ us hl => match us, hl with | [_, _], _ => rfl
  have C_read_event : Fn P w K mg base "read_event" 2 ["numbers", "at"] spReadEvent := ⟨f_read_event, fd_read_event, PySem.W.mg_of X G a_read_event, F_read_event.kp, b_read_event, ok_read_event F_read_event T C_is_step C_is_length⟩
  obtain ⟨f_head_size, fd_head_size, a_head_size, F_head_size⟩ := D.d_head_size
  have b_head_size := F_head_size.binds (ps := ["events", "tonic"]) fun _ _ _ _ _ _ us hl => match us, hl with | [_, _], _ => rfl
  have C_head_size : Fn P w K mg base "head_size" 2 ["events", "tonic"] spHead := ⟨f_head_size, fd_head_size, PySem.W.mg_of X G a_head_size, F_head_size.kp, b_head_size, ok_head_size F_head_size T C_degree⟩
  obtain ⟨f_raised, fd_raised, a_raised, F_raised⟩ := D.d_raised
  have b_raised := F_raised.binds (ps := ["events", "steps"]) fun _ _ _ _ _ _ us hl => match us, hl with | [_, _], _ => rfl
  have C_raised : Fn P w K mg base "raised" 2 ["events", "steps"] spRaised := ⟨f_raised, fd_raised, PySem.W.mg_of X G a_raised, F_raised.kp, b_raised, ok_raised F_raised T C_raised_event⟩
  obtain ⟨f_is_dominant, fd_is_dominant, a_is_dominant, F_is_dominant⟩ := D.d_is_dominant
  have b_is_dominant := F_is_dominant.binds (ps := ["event", "tonic"]) fun _ _ _ _ _ _ us hl => match us, hl with | [_, _], _ => rfl
  have C_is_dominant : Fn P w K mg base "is_dominant" 2 ["event", "tonic"] spIsDom := ⟨f_is_dominant, fd_is_dominant, PySem.W.mg_of X G a_is_dominant, F_is_dominant.kp, b_is_dominant, ok_is_dominant F_is_dominant T C_degree⟩
  obtain ⟨f_are_parallels, fd_are_parallels, a_are_parallels, F_are_parallels⟩ := D.d_are_parallels
  have b_are_parallels := F_are_parallels.binds (ps := ["ahead", "meeting"]) fun _ _ _ _ _ _ us hl => match us, hl with | [_, _], _ => rfl
  have C_are_parallels : Fn P w K mg base "are_parallels" 2 ["ahead", "meeting"] (spParallels A) := ⟨f_are_parallels, fd_are_parallels, PySem.W.mg_of X G a_are_parallels, F_are_parallels.kp, b_are_parallels, ok_are_parallels F_are_parallels T C_Moment_is_meeting C_Moment_gap⟩
  obtain ⟨f_Piece_tell_entries, fd_Piece_tell_entries, a_Piece_tell_entries, i_Piece_tell_entries, F_Piece_tell_entries⟩ := D.d_Piece_tell_entries
  have b_Piece_tell_entries := F_Piece_tell_entries.binds (ps := ["self"]) fun _ _ _ _ _ _ us hl => match us, hl with | [_], _ => rfl
  have C_Piece_tell_entries : Mt P w K mg base A.Piece "tell_entries" 2 ["self"] (spC0 A K .entries) := ⟨f_Piece_tell_entries, fd_Piece_tell_entries, ⟨a_Piece_tell_entries, i_Piece_tell_entries, F_Piece_tell_entries.kp⟩, b_Piece_tell_entries, ok_tell_entries F_Piece_tell_entries T C_Entry_numbers_told⟩
  obtain ⟨f_read_events, fd_read_events, a_read_events, F_read_events⟩ := D.d_read_events
  have b_read_events := F_read_events.binds (ps := ["numbers"]) fun _ _ _ _ _ _ us hl => match us, hl with | [_], _ => rfl
  have C_read_events : Fn P w K mg base "read_events" 3 ["numbers"] spReadEvents := ⟨f_read_events, fd_read_events, PySem.W.mg_of X G a_read_events, F_read_events.kp, b_read_events, ok_read_events F_read_events T C_read_event⟩
  obtain ⟨f_answer_of, fd_answer_of, a_answer_of, F_answer_of⟩ := D.d_answer_of
  have b_answer_of := F_answer_of.binds (ps := ["events", "tonic"]) fun _ _ _ _ _ _ us hl => match us, hl with | [_, _], _ => rfl
  have C_answer_of : Fn P w K mg base "answer_of" 3 ["events", "tonic"] spAnswer := ⟨f_answer_of, fd_answer_of, PySem.W.mg_of X G a_answer_of, F_answer_of.kp, b_answer_of, ok_answer_of F_answer_of T C_head_size C_is_dominant C_raised_event C_raised⟩
  obtain ⟨f_changed_by_answer, fd_changed_by_answer, a_changed_by_answer, F_changed_by_answer⟩ := D.d_changed_by_answer
  have b_changed_by_answer := F_changed_by_answer.binds (ps := ["events", "tonic"]) fun _ _ _ _ _ _ us hl => match us, hl with | [_, _], _ => rfl
  have C_changed_by_answer : Fn P w K mg base "changed_by_answer" 3 ["events", "tonic"] spChanged := ⟨f_changed_by_answer, fd_changed_by_answer, PySem.W.mg_of X G a_changed_by_answer, F_changed_by_answer.kp, b_changed_by_answer, ok_changed F_changed_by_answer T C_head_size C_is_dominant⟩
  obtain ⟨f_moments_of, fd_moments_of, a_moments_of, F_moments_of⟩ := D.d_moments_of
  have b_moments_of := F_moments_of.binds (ps := ["first", "second"]) fun _ _ _ _ _ _ us hl => match us, hl with | [_, _], _ => rfl
  have C_moments_of : Fn P w K mg base "moments_of" 3 ["first", "second"] (spMoments A) := ⟨f_moments_of, fd_moments_of, PySem.W.mg_of X G a_moments_of, F_moments_of.kp, b_moments_of, ok_moments_of F_moments_of T C_step_at C_Moment_init⟩
  obtain ⟨f_Entry_init, fd_Entry_init, a_Entry_init, i_Entry_init, F_Entry_init⟩ := D.d_Entry_init
  have b_Entry_init := F_Entry_init.binds (ps := ["self", "kind", "time", "octaves", "voice", "events"]) fun _ _ _ _ _ _ us hl => match us, hl with | [_, _, _, _, _, _], _ => rfl
  have C_Entry_init : Nw P w K mg base "Entry" A.Entry 3 ["self", "kind", "time", "octaves", "voice", "events"] (spEnInit A) := ⟨f_Entry_init, fd_Entry_init, PySem.W.mg_of X G D.k_Entry.at_, ⟨D.k_Entry.makes, a_Entry_init, i_Entry_init, D.k_Entry.kp⟩, b_Entry_init, ok_Entry_init F_Entry_init T C_placed C_raised C_line_length⟩
  obtain ⟨f_Piece_init, fd_Piece_init, a_Piece_init, i_Piece_init, F_Piece_init⟩ := D.d_Piece_init
  have b_Piece_init := F_Piece_init.binds (ps := ["self"]) fun _ _ _ _ _ _ us hl => match us, hl with | [_], _ => rfl
  have C_Piece_init : Nw P w K mg base "Piece" A.Piece 3 ["self"] (spPcInit A K) := ⟨f_Piece_init, fd_Piece_init, PySem.W.mg_of X G D.k_Piece.at_, ⟨D.k_Piece.makes, a_Piece_init, i_Piece_init, D.k_Piece.kp⟩, b_Piece_init, ok_Piece_init F_Piece_init T C_Prices_init⟩
  obtain ⟨f_Piece_take_prices, fd_Piece_take_prices, a_Piece_take_prices, i_Piece_take_prices, F_Piece_take_prices⟩ := D.d_Piece_take_prices
  have b_Piece_take_prices := F_Piece_take_prices.binds (ps := ["self", "numbers"]) fun _ _ _ _ _ _ us hl => match us, hl with | [_, _], _ => rfl
  have C_Piece_take_prices : Mt P w K mg base A.Piece "take_prices" 3 ["self", "numbers"] (spCL A K 16 16 prCall) := ⟨f_Piece_take_prices, fd_Piece_take_prices, ⟨a_Piece_take_prices, i_Piece_take_prices, F_Piece_take_prices.kp⟩, b_Piece_take_prices, ok_take_prices F_Piece_take_prices T C_are_prices C_Prices_init⟩
  obtain ⟨f_Piece_lowered_counter, fd_Piece_lowered_counter, a_Piece_lowered_counter, i_Piece_lowered_counter, F_Piece_lowered_counter⟩ := D.d_Piece_lowered_counter
  have b_Piece_lowered_counter := F_Piece_lowered_counter.binds (ps := ["self", "steps"]) fun _ _ _ _ _ _ us hl => match us, hl with | [_, _], _ => rfl
  have C_Piece_lowered_counter : Mt P w K mg base A.Piece "lowered_counter" 3 ["self", "steps"] (spLowered A K) := ⟨f_Piece_lowered_counter, fd_Piece_lowered_counter, ⟨a_Piece_lowered_counter, i_Piece_lowered_counter, F_Piece_lowered_counter.kp⟩, b_Piece_lowered_counter, ok_lowered_counter F_Piece_lowered_counter T C_placed C_raised⟩
  obtain ⟨f_meetings_of, fd_meetings_of, a_meetings_of, F_meetings_of⟩ := D.d_meetings_of
  have b_meetings_of := F_meetings_of.binds (ps := ["first", "second"]) fun _ _ _ _ _ _ us hl => match us, hl with | [_, _], _ => rfl
  have C_meetings_of : Fn P w K mg base "meetings_of" 4 ["first", "second"] (spMeetings A) := ⟨f_meetings_of, fd_meetings_of, PySem.W.mg_of X G a_meetings_of, F_meetings_of.kp, b_meetings_of, ok_meetings_of F_meetings_of T C_moments_of C_Moment_is_meeting⟩
  obtain ⟨f_meeting_costs, fd_meeting_costs, a_meeting_costs, F_meeting_costs⟩ := D.d_meeting_costs
  have b_meeting_costs := F_meeting_costs.binds (ps := ["first", "second", "prices"]) fun _ _ _ _ _ _ us hl => match us, hl with | [_, _, _], _ => rfl
  have C_meeting_costs : Fn P w K mg base "meeting_costs" 4 ["first", "second", "prices"] (spCosts A K) := ⟨f_meeting_costs, fd_meeting_costs, PySem.W.mg_of X G a_meeting_costs, F_meeting_costs.kp, b_meeting_costs, ok_meeting_costs F_meeting_costs T C_moments_of C_Moment_is_meeting C_Moment_gap C_Prices_gap_price C_are_parallels⟩
  obtain ⟨f_Piece_take_subject, fd_Piece_take_subject, a_Piece_take_subject, i_Piece_take_subject, F_Piece_take_subject⟩ := D.d_Piece_take_subject
  have b_Piece_take_subject := F_Piece_take_subject.binds (ps := ["self", "tonic", "numbers"]) fun _ _ _ _ _ _ us hl => match us, hl with | [_, _, _], _ => rfl
  have C_Piece_take_subject : Mt P w K mg base A.Piece "take_subject" 4 ["self", "tonic", "numbers"] (spSubject A K) := ⟨f_Piece_take_subject, fd_Piece_take_subject, ⟨a_Piece_take_subject, i_Piece_take_subject, F_Piece_take_subject.kp⟩, b_Piece_take_subject, ok_take_subject F_Piece_take_subject T C_is_step C_read_events C_line_length C_head_size⟩
  obtain ⟨f_Piece_tell_answer, fd_Piece_tell_answer, a_Piece_tell_answer, i_Piece_tell_answer, F_Piece_tell_answer⟩ := D.d_Piece_tell_answer
  have b_Piece_tell_answer := F_Piece_tell_answer.binds (ps := ["self"]) fun _ _ _ _ _ _ us hl => match us, hl with | [_], _ => rfl
  have C_Piece_tell_answer : Mt P w K mg base A.Piece "tell_answer" 4 ["self"] (spC0 A K .answer) := ⟨f_Piece_tell_answer, fd_Piece_tell_answer, ⟨a_Piece_tell_answer, i_Piece_tell_answer, F_Piece_tell_answer.kp⟩, b_Piece_tell_answer, ok_tell_answer F_Piece_tell_answer T C_changed_by_answer C_tell_events C_answer_of⟩
  obtain ⟨f_Piece_line_of_kind, fd_Piece_line_of_kind, a_Piece_line_of_kind, i_Piece_line_of_kind, F_Piece_line_of_kind⟩ := D.d_Piece_line_of_kind
  have b_Piece_line_of_kind := F_Piece_line_of_kind.binds (ps := ["self", "kind"]) fun _ _ _ _ _ _ us hl => match us, hl with | [_, _], _ => rfl
  have C_Piece_line_of_kind : Mt P w K mg base A.Piece "line_of_kind" 4 ["self", "kind"] (spLineOf A K) := ⟨f_Piece_line_of_kind, fd_Piece_line_of_kind, ⟨a_Piece_line_of_kind, i_Piece_line_of_kind, F_Piece_line_of_kind.kp⟩, b_Piece_line_of_kind, ok_line_of_kind F_Piece_line_of_kind T C_answer_of C_raised⟩
  obtain ⟨f_voices_cost, fd_voices_cost, a_voices_cost, F_voices_cost⟩ := D.d_voices_cost
  have b_voices_cost := F_voices_cost.binds (ps := ["first", "second", "prices"]) fun _ _ _ _ _ _ us hl => match us, hl with | [_, _, _], _ => rfl
  have C_voices_cost : Fn P w K mg base "voices_cost" 5 ["first", "second", "prices"] (spVCost A K) := ⟨f_voices_cost, fd_voices_cost, PySem.W.mg_of X G a_voices_cost, F_voices_cost.kp, b_voices_cost, ok_voices_cost F_voices_cost T C_meeting_costs⟩
  obtain ⟨f_times_above, fd_times_above, a_times_above, F_times_above⟩ := D.d_times_above
  have b_times_above := F_times_above.binds (ps := ["first", "second"]) fun _ _ _ _ _ _ us hl => match us, hl with | [_, _], _ => rfl
  have C_times_above : Fn P w K mg base "times_above" 5 ["first", "second"] (spAbove A) := ⟨f_times_above, fd_times_above, PySem.W.mg_of X G a_times_above, F_times_above.kp, b_times_above, ok_times_above F_times_above T C_meetings_of⟩
  obtain ⟨f_bad_meetings, fd_bad_meetings, a_bad_meetings, F_bad_meetings⟩ := D.d_bad_meetings
  have b_bad_meetings := F_bad_meetings.binds (ps := ["first", "second", "prices"]) fun _ _ _ _ _ _ us hl => match us, hl with | [_, _, _], _ => rfl
  have C_bad_meetings : Fn P w K mg base "bad_meetings" 5 ["first", "second", "prices"] (spBad A K) := ⟨f_bad_meetings, fd_bad_meetings, PySem.W.mg_of X G a_bad_meetings, F_bad_meetings.kp, b_bad_meetings, ok_bad_meetings F_bad_meetings T C_meeting_costs⟩
  obtain ⟨f_Piece_tell_line, fd_Piece_tell_line, a_Piece_tell_line, i_Piece_tell_line, F_Piece_tell_line⟩ := D.d_Piece_tell_line
  have b_Piece_tell_line := F_Piece_tell_line.binds (ps := ["self", "kind"]) fun _ _ _ _ _ _ us hl => match us, hl with | [_, _], _ => rfl
  have C_Piece_tell_line : Mt P w K mg base A.Piece "tell_line" 5 ["self", "kind"] (spC1 A K .line) := ⟨f_Piece_tell_line, fd_Piece_tell_line, ⟨a_Piece_tell_line, i_Piece_tell_line, F_Piece_tell_line.kp⟩, b_Piece_tell_line, ok_tell_line F_Piece_tell_line T C_is_kind C_Piece_line_of_kind C_tell_events⟩
  obtain ⟨f_Piece_made_entry, fd_Piece_made_entry, a_Piece_made_entry, i_Piece_made_entry, F_Piece_made_entry⟩ := D.d_Piece_made_entry
  have b_Piece_made_entry := F_Piece_made_entry.binds (ps := ["self", "kind", "time", "octaves", "voice"]) fun _ _ _ _ _ _ us hl => match us, hl with | [_, _, _, _, _], _ => rfl
  have C_Piece_made_entry : Mt P w K mg base A.Piece "made_entry" 5 ["self", "kind", "time", "octaves", "voice"] (spMade A K) := ⟨f_Piece_made_entry, fd_Piece_made_entry, ⟨a_Piece_made_entry, i_Piece_made_entry, F_Piece_made_entry.kp⟩, b_Piece_made_entry, ok_made_entry F_Piece_made_entry T C_Entry_init C_Piece_line_of_kind⟩
  obtain ⟨f_cost_against, fd_cost_against, a_cost_against, F_cost_against⟩ := D.d_cost_against
  have b_cost_against := F_cost_against.binds (ps := ["entry", "others", "prices"]) fun _ _ _ _ _ _ us hl => match us, hl with | [_, _, _], _ => rfl
  have C_cost_against : Fn P w K mg base "cost_against" 6 ["entry", "others", "prices"] (spAgainst A K) := ⟨f_cost_against, fd_cost_against, PySem.W.mg_of X G a_cost_against, F_cost_against.kp, b_cost_against, ok_cost_against F_cost_against T C_voices_cost⟩
  obtain ⟨f_Piece_tell_bad, fd_Piece_tell_bad, a_Piece_tell_bad, i_Piece_tell_bad, F_Piece_tell_bad⟩ := D.d_Piece_tell_bad
  have b_Piece_tell_bad := F_Piece_tell_bad.binds (ps := ["self", "i", "j"]) fun _ _ _ _ _ _ us hl => match us, hl with | [_, _, _], _ => rfl
  have C_Piece_tell_bad : Mt P w K mg base A.Piece "tell_bad" 6 ["self", "i", "j"] (spC2 A K .bad) := ⟨f_Piece_tell_bad, fd_Piece_tell_bad, ⟨a_Piece_tell_bad, i_Piece_tell_bad, F_Piece_tell_bad.kp⟩, b_Piece_tell_bad, ok_tell_bad F_Piece_tell_bad T C_Piece_is_entry C_bad_meetings⟩
  obtain ⟨f_Piece_entry_refusal, fd_Piece_entry_refusal, a_Piece_entry_refusal, i_Piece_entry_refusal, F_Piece_entry_refusal⟩ := D.d_Piece_entry_refusal
  have b_Piece_entry_refusal := F_Piece_entry_refusal.binds (ps := ["self", "kind", "time", "octaves", "voice"]) fun _ _ _ _ _ _ us hl => match us, hl with | [_, _, _, _, _], _ => rfl
  have C_Piece_entry_refusal : Mt P w K mg base A.Piece "entry_refusal" 6 ["self", "kind", "time", "octaves", "voice"] (spRefusal A K) := ⟨f_Piece_entry_refusal, fd_Piece_entry_refusal, ⟨a_Piece_entry_refusal, i_Piece_entry_refusal, F_Piece_entry_refusal.kp⟩, b_Piece_entry_refusal, ok_entry_refusal F_Piece_entry_refusal T C_is_kind C_is_place C_Piece_line_of_kind C_Piece_made_entry C_overlap⟩
  obtain ⟨f_Piece_cost_lowered, fd_Piece_cost_lowered, a_Piece_cost_lowered, i_Piece_cost_lowered, F_Piece_cost_lowered⟩ := D.d_Piece_cost_lowered
  have b_Piece_cost_lowered := F_Piece_cost_lowered.binds (ps := ["self", "steps"]) fun _ _ _ _ _ _ us hl => match us, hl with | [_, _], _ => rfl
  have C_Piece_cost_lowered : Mt P w K mg base A.Piece "cost_lowered" 6 ["self", "steps"] (spCostLow A K) := ⟨f_Piece_cost_lowered, fd_Piece_cost_lowered, ⟨a_Piece_cost_lowered, i_Piece_cost_lowered, F_Piece_cost_lowered.kp⟩, b_Piece_cost_lowered, ok_cost_lowered F_Piece_cost_lowered T C_placed C_Piece_lowered_counter C_voices_cost⟩
  obtain ⟨f_Piece_times_still_above, fd_Piece_times_still_above, a_Piece_times_still_above, i_Piece_times_still_above, F_Piece_times_still_above⟩ := D.d_Piece_times_still_above
  have b_Piece_times_still_above := F_Piece_times_still_above.binds (ps := ["self", "steps"]) fun _ _ _ _ _ _ us hl => match us, hl with | [_, _], _ => rfl
  have C_Piece_times_still_above : Mt P w K mg base A.Piece "times_still_above" 6 ["self", "steps"] (spStill A K) := ⟨f_Piece_times_still_above, fd_Piece_times_still_above, ⟨a_Piece_times_still_above, i_Piece_times_still_above, F_Piece_times_still_above.kp⟩, b_Piece_times_still_above, ok_times_still_above F_Piece_times_still_above T C_placed C_Piece_lowered_counter C_times_above⟩
  obtain ⟨f_cost_of_all, fd_cost_of_all, a_cost_of_all, F_cost_of_all⟩ := D.d_cost_of_all
  have b_cost_of_all := F_cost_of_all.binds (ps := ["entries", "prices"]) fun _ _ _ _ _ _ us hl => match us, hl with | [_, _], _ => rfl
  have C_cost_of_all : Fn P w K mg base "cost_of_all" 7 ["entries", "prices"] (spAll A K) := ⟨f_cost_of_all, fd_cost_of_all, PySem.W.mg_of X G a_cost_of_all, F_cost_of_all.kp, b_cost_of_all, ok_cost_of_all F_cost_of_all T C_cost_against⟩
  obtain ⟨f_Piece_take_counter, fd_Piece_take_counter, a_Piece_take_counter, i_Piece_take_counter, F_Piece_take_counter⟩ := D.d_Piece_take_counter
  have b_Piece_take_counter := F_Piece_take_counter.binds (ps := ["self", "numbers"]) fun _ _ _ _ _ _ us hl => match us, hl with | [_, _], _ => rfl
  have C_Piece_take_counter : Mt P w K mg base A.Piece "take_counter" 7 ["self", "numbers"] (spCL A K 0 60 .counter) := ⟨f_Piece_take_counter, fd_Piece_take_counter, ⟨a_Piece_take_counter, i_Piece_take_counter, F_Piece_take_counter.kp⟩, b_Piece_take_counter, ok_take_counter F_Piece_take_counter T C_read_events C_line_length C_Piece_cost_lowered⟩
  obtain ⟨f_Piece_tell_swap, fd_Piece_tell_swap, a_Piece_tell_swap, i_Piece_tell_swap, F_Piece_tell_swap⟩ := D.d_Piece_tell_swap
  have b_Piece_tell_swap := F_Piece_tell_swap.binds (ps := ["self", "n"]) fun _ _ _ _ _ _ us hl => match us, hl with | [_, _], _ => rfl
  have C_Piece_tell_swap : Mt P w K mg base A.Piece "tell_swap" 7 ["self", "n"] (spC1 A K .swap) := ⟨f_Piece_tell_swap, fd_Piece_tell_swap, ⟨a_Piece_tell_swap, i_Piece_tell_swap, F_Piece_tell_swap.kp⟩, b_Piece_tell_swap, ok_tell_swap F_Piece_tell_swap T C_Piece_times_still_above C_Piece_cost_lowered⟩
  obtain ⟨f_Piece_tell_swaps, fd_Piece_tell_swaps, a_Piece_tell_swaps, i_Piece_tell_swaps, F_Piece_tell_swaps⟩ := D.d_Piece_tell_swaps
  have b_Piece_tell_swaps := F_Piece_tell_swaps.binds (ps := ["self"]) fun _ _ _ _ _ _ us hl => match us, hl with | [_], _ => rfl
  have C_Piece_tell_swaps : Mt P w K mg base A.Piece "tell_swaps" 7 ["self"] (spC0 A K .swaps) := ⟨f_Piece_tell_swaps, fd_Piece_tell_swaps, ⟨a_Piece_tell_swaps, i_Piece_tell_swaps, F_Piece_tell_swaps.kp⟩, b_Piece_tell_swaps, ok_tell_swaps F_Piece_tell_swaps T C_Piece_times_still_above C_Piece_cost_lowered⟩
  obtain ⟨f_Piece_take_entry, fd_Piece_take_entry, a_Piece_take_entry, i_Piece_take_entry, F_Piece_take_entry⟩ := D.d_Piece_take_entry
  have b_Piece_take_entry := F_Piece_take_entry.binds (ps := ["self", "kind", "time", "octaves", "voice"]) fun _ _ _ _ _ _ us hl => match us, hl with | [_, _, _, _, _], _ => rfl
  have C_Piece_take_entry : Mt P w K mg base A.Piece "take_entry" 7 ["self", "kind", "time", "octaves", "voice"] (spC4 A K .enter) := ⟨f_Piece_take_entry, fd_Piece_take_entry, ⟨a_Piece_take_entry, i_Piece_take_entry, F_Piece_take_entry.kp⟩, b_Piece_take_entry, ok_take_entry F_Piece_take_entry T C_Piece_entry_refusal C_Piece_made_entry C_cost_against⟩
  obtain ⟨f_Piece_tell_best, fd_Piece_tell_best, a_Piece_tell_best, i_Piece_tell_best, F_Piece_tell_best⟩ := D.d_Piece_tell_best
  have b_Piece_tell_best := F_Piece_tell_best.binds (ps := ["self", "kind", "time", "voice"]) fun _ _ _ _ _ _ us hl => match us, hl with | [_, _, _, _], _ => rfl
  have C_Piece_tell_best : Mt P w K mg base A.Piece "tell_best" 7 ["self", "kind", "time", "voice"] (spC3 A K .best) := ⟨f_Piece_tell_best, fd_Piece_tell_best, ⟨a_Piece_tell_best, i_Piece_tell_best, F_Piece_tell_best.kp⟩, b_Piece_tell_best, ok_tell_best F_Piece_tell_best T C_Piece_entry_refusal C_Piece_made_entry C_cost_against⟩
  obtain ⟨f_Piece_tell_cost, fd_Piece_tell_cost, a_Piece_tell_cost, i_Piece_tell_cost, F_Piece_tell_cost⟩ := D.d_Piece_tell_cost
  have b_Piece_tell_cost := F_Piece_tell_cost.binds (ps := ["self"]) fun _ _ _ _ _ _ us hl => match us, hl with | [_], _ => rfl
  have C_Piece_tell_cost : Mt P w K mg base A.Piece "tell_cost" 8 ["self"] (spC0 A K .cost) := ⟨f_Piece_tell_cost, fd_Piece_tell_cost, ⟨a_Piece_tell_cost, i_Piece_tell_cost, F_Piece_tell_cost.kp⟩, b_Piece_tell_cost, ok_tell_cost F_Piece_tell_cost T C_cost_of_all⟩
  obtain ⟨f_answer_call, fd_answer_call, a_answer_call, F_answer_call⟩ := D.d_answer_call
  have b_answer_call := F_answer_call.binds (ps := ["piece", "call", "numbers"]) fun _ _ _ _ _ _ us hl => match us, hl with | [_, _, _], _ => rfl
  have C_answer_call : Fn P w K mg base "answer_call" 9 ["piece", "call", "numbers"] (spCall A K) := ⟨f_answer_call, fd_answer_call, PySem.W.mg_of X G a_answer_call, F_answer_call.kp, b_answer_call, ok_answer_call F_answer_call T C_Piece_take_subject C_Piece_take_counter C_Piece_take_prices C_Piece_tell_answer C_Piece_tell_line C_Piece_tell_swap C_Piece_tell_swaps C_Piece_take_entry C_Piece_tell_best C_Piece_drop_entry C_Piece_tell_cost C_Piece_tell_bad C_Piece_tell_entries⟩
  exact ok_answers F0 T C_Piece_init C_read_calls C_answer_call
end Fa

set_option Elab.async false
open PySem PySem.W PyProof.Rows
set_option maxRecDepth 100000 in
set_option maxHeartbeats 8000000 in
theorem PySem.Challenge.cw_fugueanswers_s01_answers_holds : PySem.Challenge.rw_fugueanswers_s01_answers.Holds := by
  w_on; k_headS; (case hw => exact ⟨[.list [.int 4, .int 0, .int 0]], by decide +kernel, by decide +kernel⟩)
  k_fillS
  refine L2.walk_specK (r := PySem.Challenge.rw_fugueanswers_s01_answers) (k := 10) (CX := L2.CX0) (ps := ["calls"]) (sp := Fa.spAns) (by decide +kernel) rfl rfl ⟨rfl, by decide, by decide⟩ (fun w h Y => PySem.W.kIn_of Y) ?F ?S (fun _ _ _ _ z => z)
  case F =>
    intro w mg fa h Y KX G hmg
    have c_STEPS_OF_AN_OCTAVE := Fa.cst_mk (x := "STEPS_OF_AN_OCTAVE") (n := 7) KX G (by k_is)
    have c_FIFTH := Fa.cst_mk (x := "FIFTH") (n := 4) KX G (by k_is)
    have c_FIFTH_OF_A_DOMINANT := Fa.cst_mk (x := "FIFTH_OF_A_DOMINANT") (n := 3) KX G (by k_is)
    have c_TONIC_DEGREE := Fa.cst_mk (x := "TONIC_DEGREE") (n := 0) KX G (by k_is)
    have c_DOMINANT_DEGREE := Fa.cst_mk (x := "DOMINANT_DEGREE") (n := 4) KX G (by k_is)
    have c_HIGHEST_STEP := Fa.cst_mk (x := "HIGHEST_STEP") (n := 69) KX G (by k_is)
    have c_LONGEST_LENGTH := Fa.cst_mk (x := "LONGEST_LENGTH") (n := 512) KX G (by k_is)
    have c_REST := Fa.cst_mk (x := "REST") (n := 0) KX G (by k_is)
    have c_NOTE := Fa.cst_mk (x := "NOTE") (n := 1) KX G (by k_is)
    have c_NUMBERS_OF_A_REST := Fa.cst_mk (x := "NUMBERS_OF_A_REST") (n := 2) KX G (by k_is)
    have c_NUMBERS_OF_A_NOTE := Fa.cst_mk (x := "NUMBERS_OF_A_NOTE") (n := 3) KX G (by k_is)
    have c_LAST_TIME := Fa.cst_mk (x := "LAST_TIME") (n := 8192) KX G (by k_is)
    have c_MOST_OCTAVES := Fa.cst_mk (x := "MOST_OCTAVES") (n := 4) KX G (by k_is)
    have c_LAST_VOICE := Fa.cst_mk (x := "LAST_VOICE") (n := 3) KX G (by k_is)
    have c_HOW_MANY_NUMBERS := Fa.cst_mk (x := "HOW_MANY_NUMBERS") (n := 16) KX G (by k_is)
    have c_OFF_BEAT_FROM := Fa.cst_mk (x := "OFF_BEAT_FROM") (n := 7) KX G (by k_is)
    have c_PARALLELS_AT := Fa.cst_mk (x := "PARALLELS_AT") (n := 14) KX G (by k_is)
    have c_BEAT_AT := Fa.cst_mk (x := "BEAT_AT") (n := 15) KX G (by k_is)
    have c_HIGHEST_PRICE := Fa.cst_mk (x := "HIGHEST_PRICE") (n := 100) KX G (by k_is)
    have c_LONGEST_BEAT := Fa.cst_mk (x := "LONGEST_BEAT") (n := 512) KX G (by k_is)
    have c_FIRST_TONIC := Fa.cst_mk (x := "FIRST_TONIC") (n := 28) KX G (by k_is)
    have c_MOST_EVENTS := Fa.cst_mk (x := "MOST_EVENTS") (n := 16) KX G (by k_is)
    have c_LAST_SWAP := Fa.cst_mk (x := "LAST_SWAP") (n := 22) KX G (by k_is)
    have c_MOST_ENTRIES := Fa.cst_mk (x := "MOST_ENTRIES") (n := 8) KX G (by k_is)
    have c_SUBJECT_KIND := Fa.cst_mk (x := "SUBJECT_KIND") (n := 0) KX G (by k_is)
    have c_ANSWER_KIND := Fa.cst_mk (x := "ANSWER_KIND") (n := 1) KX G (by k_is)
    have c_COUNTER_KIND := Fa.cst_mk (x := "COUNTER_KIND") (n := 2) KX G (by k_is)
    have c_RAISED_COUNTER_KIND := Fa.cst_mk (x := "RAISED_COUNTER_KIND") (n := 3) KX G (by k_is)
    have c_OUT_OF_RANGE := Fa.cst_mk (x := "OUT_OF_RANGE") (n := -1) KX G (by k_is)
    have c_NO_LIST_OF_EVENTS := Fa.cst_mk (x := "NO_LIST_OF_EVENTS") (n := -2) KX G (by k_is)
    have c_NO_ENTRY := Fa.cst_mk (x := "NO_ENTRY") (n := -3) KX G (by k_is)
    have c_OVERLAP := Fa.cst_mk (x := "OVERLAP") (n := -4) KX G (by k_is)
    have c_WRONG_COUNT := Fa.cst_mk (x := "WRONG_COUNT") (n := -5) KX G (by k_is)
    have c_NO_LINE := Fa.cst_mk (x := "NO_LINE") (n := -7) KX G (by k_is)
    have c_SUBJECT_CALL := Fa.cst_mk (x := "SUBJECT_CALL") (n := 1) KX G (by k_is)
    have c_COUNTER_CALL := Fa.cst_mk (x := "COUNTER_CALL") (n := 2) KX G (by k_is)
    have c_PRICES_CALL := Fa.cst_mk (x := "PRICES_CALL") (n := 3) KX G (by k_is)
    have c_ANSWER_CALL := Fa.cst_mk (x := "ANSWER_CALL") (n := 4) KX G (by k_is)
    have c_LINE_CALL := Fa.cst_mk (x := "LINE_CALL") (n := 5) KX G (by k_is)
    have c_SWAP_CALL := Fa.cst_mk (x := "SWAP_CALL") (n := 6) KX G (by k_is)
    have c_SWAPS_CALL := Fa.cst_mk (x := "SWAPS_CALL") (n := 7) KX G (by k_is)
    have c_ENTER_CALL := Fa.cst_mk (x := "ENTER_CALL") (n := 8) KX G (by k_is)
    have c_BEST_CALL := Fa.cst_mk (x := "BEST_CALL") (n := 9) KX G (by k_is)
    have c_DROP_CALL := Fa.cst_mk (x := "DROP_CALL") (n := 10) KX G (by k_is)
    have c_COST_CALL := Fa.cst_mk (x := "COST_CALL") (n := 11) KX G (by k_is)
    have c_BAD_CALL := Fa.cst_mk (x := "BAD_CALL") (n := 12) KX G (by k_is)
    have c_ENTRIES_CALL := Fa.cst_mk (x := "ENTRIES_CALL") (n := 13) KX G (by k_is)
    have t_PARALLEL_GAPS := Fa.tup_mk (x := "PARALLEL_GAPS") (xs := [0, 4].map L2.V.int) KX G (by k_is) (by k_is) rfl (by decide) (by exact .cons ⟨_, rfl⟩ (.cons ⟨_, rfl⟩ (.nil)))
    have t_FIRST_PRICES := Fa.tup_mk (x := "FIRST_PRICES") (xs := [0, 10, 0, 6, 0, 0, 10, 0, 3, 0, 2, 0, 0, 3, 8, 16].map L2.V.int) KX G (by k_is) (by k_is) rfl (by decide) (by exact .cons ⟨_, rfl⟩ (.cons ⟨_, rfl⟩ (.cons ⟨_, rfl⟩ (.cons ⟨_, rfl⟩ (.cons ⟨_, rfl⟩ (.cons ⟨_, rfl⟩ (.cons ⟨_, rfl⟩ (.cons ⟨_, rfl⟩ (.cons ⟨_, rfl⟩ (.cons ⟨_, rfl⟩ (.cons ⟨_, rfl⟩ (.cons ⟨_, rfl⟩ (.cons ⟨_, rfl⟩ (.cons ⟨_, rfl⟩ (.cons ⟨_, rfl⟩ (.cons ⟨_, rfl⟩ (.nil)))))))))))))))))
    have t_OCTAVES_TO_CHOOSE := Fa.tup_mk (x := "OCTAVES_TO_CHOOSE") (xs := [0, -1, 1, -2, 2].map L2.V.int) KX G (by k_is) (by k_is) rfl (by decide) (by exact .cons ⟨_, rfl⟩ (.cons ⟨_, rfl⟩ (.cons ⟨_, rfl⟩ (.cons ⟨_, rfl⟩ (.cons ⟨_, rfl⟩ (.nil))))))
    have b_abs := Fa.blt_mk (x := "abs") KX G (by k_is)
    have b_all := Fa.blt_mk (x := "all") KX G (by k_is)
    have b_any := Fa.blt_mk (x := "any") KX G (by k_is)
    have b_enumerate := Fa.blt_mk (x := "enumerate") KX G (by k_is)
    have b_len := Fa.blt_mk (x := "len") KX G (by k_is)
    have b_min := Fa.blt_mk (x := "min") KX G (by k_is)
    have b_range := Fa.blt_mk (x := "range") KX G (by k_is)
    have b_set := Fa.blt_mk (x := "set") KX G (by k_is)
    have b_sorted := Fa.blt_mk (x := "sorted") KX G (by k_is)
    have b_sum := Fa.blt_mk (x := "sum") KX G (by k_is)
    have k_Moment := Fa.clsA_mk (x := "Moment") KX (by k_is) (by k_is) (by k_is) (by k_is) (by k_is) (by k_is) (by k_is)
    have n_Moment_first := Fa.noA_mk (g := "first") k_Moment (by k_is)
    have n_Moment_second := Fa.noA_mk (g := "second") k_Moment (by k_is)
    have n_Moment_time := Fa.noA_mk (g := "time") k_Moment (by k_is)
    have k_Entry := Fa.clsA_mk (x := "Entry") KX (by k_is) (by k_is) (by k_is) (by k_is) (by k_is) (by k_is) (by k_is)
    have n_Entry_end := Fa.noA_mk (g := "end") k_Entry (by k_is)
    have n_Entry_kind := Fa.noA_mk (g := "kind") k_Entry (by k_is)
    have n_Entry_octaves := Fa.noA_mk (g := "octaves") k_Entry (by k_is)
    have n_Entry_part := Fa.noA_mk (g := "part") k_Entry (by k_is)
    have n_Entry_time := Fa.noA_mk (g := "time") k_Entry (by k_is)
    have n_Entry_voice := Fa.noA_mk (g := "voice") k_Entry (by k_is)
    have k_Prices := Fa.clsA_mk (x := "Prices") KX (by k_is) (by k_is) (by k_is) (by k_is) (by k_is) (by k_is) (by k_is)
    have n_Prices_beat := Fa.noA_mk (g := "beat") k_Prices (by k_is)
    have n_Prices_off_beat := Fa.noA_mk (g := "off_beat") k_Prices (by k_is)
    have n_Prices_on_beat := Fa.noA_mk (g := "on_beat") k_Prices (by k_is)
    have n_Prices_parallels := Fa.noA_mk (g := "parallels") k_Prices (by k_is)
    have k_Piece := Fa.clsA_mk (x := "Piece") KX (by k_is) (by k_is) (by k_is) (by k_is) (by k_is) (by k_is) (by k_is)
    have n_Piece_counter := Fa.noA_mk (g := "counter") k_Piece (by k_is)
    have n_Piece_entries := Fa.noA_mk (g := "entries") k_Piece (by k_is)
    have n_Piece_prices := Fa.noA_mk (g := "prices") k_Piece (by k_is)
    have n_Piece_subject := Fa.noA_mk (g := "subject") k_Piece (by k_is)
    have n_Piece_tonic := Fa.noA_mk (g := "tonic") k_Piece (by k_is)
    have d_is_step := Fa.fnA_ex (x := "is_step") (st := Fa.s_is_step) KX (by k_is) (by k_is) (by k_is) (by k_is)
    have d_is_length := Fa.fnA_ex (x := "is_length") (st := Fa.s_is_length) KX (by k_is) (by k_is) (by k_is) (by k_is)
    have d_read_event := Fa.fnA_ex (x := "read_event") (st := Fa.s_read_event) KX (by k_is) (by k_is) (by k_is) (by k_is)
    have d_read_events := Fa.fnA_ex (x := "read_events") (st := Fa.s_read_events) KX (by k_is) (by k_is) (by k_is) (by k_is)
    have d_tell_events := Fa.fnA_ex (x := "tell_events") (st := Fa.s_tell_events) KX (by k_is) (by k_is) (by k_is) (by k_is)
    have d_line_length := Fa.fnA_ex (x := "line_length") (st := Fa.s_line_length) KX (by k_is) (by k_is) (by k_is) (by k_is)
    have d_degree := Fa.fnA_ex (x := "degree") (st := Fa.s_degree) KX (by k_is) (by k_is) (by k_is) (by k_is)
    have d_head_size := Fa.fnA_ex (x := "head_size") (st := Fa.s_head_size) KX (by k_is) (by k_is) (by k_is) (by k_is)
    have d_raised_event := Fa.fnA_ex (x := "raised_event") (st := Fa.s_raised_event) KX (by k_is) (by k_is) (by k_is) (by k_is)
    have d_raised := Fa.fnA_ex (x := "raised") (st := Fa.s_raised) KX (by k_is) (by k_is) (by k_is) (by k_is)
    have d_is_dominant := Fa.fnA_ex (x := "is_dominant") (st := Fa.s_is_dominant) KX (by k_is) (by k_is) (by k_is) (by k_is)
    have d_answer_of := Fa.fnA_ex (x := "answer_of") (st := Fa.s_answer_of) KX (by k_is) (by k_is) (by k_is) (by k_is)
    have d_changed_by_answer := Fa.fnA_ex (x := "changed_by_answer") (st := Fa.s_changed_by_answer) KX (by k_is) (by k_is) (by k_is) (by k_is)
    have d_Moment_init := Fa.mtA_ex (m := "__init__") (qual := "Moment.__init__") (st := Fa.s_Moment_init) k_Moment (by k_is) (by k_is) (by k_is) (by k_is) (by k_is)
    have d_Moment_is_meeting := Fa.mtA_ex (m := "is_meeting") (qual := "Moment.is_meeting") (st := Fa.s_Moment_is_meeting) k_Moment (by k_is) (by k_is) (by k_is) (by k_is) (by k_is)
    have d_Moment_gap := Fa.mtA_ex (m := "gap") (qual := "Moment.gap") (st := Fa.s_Moment_gap) k_Moment (by k_is) (by k_is) (by k_is) (by k_is) (by k_is)
    have d_placed := Fa.fnA_ex (x := "placed") (st := Fa.s_placed) KX (by k_is) (by k_is) (by k_is) (by k_is)
    have d_step_at := Fa.fnA_ex (x := "step_at") (st := Fa.s_step_at) KX (by k_is) (by k_is) (by k_is) (by k_is)
    have d_moments_of := Fa.fnA_ex (x := "moments_of") (st := Fa.s_moments_of) KX (by k_is) (by k_is) (by k_is) (by k_is)
    have d_meetings_of := Fa.fnA_ex (x := "meetings_of") (st := Fa.s_meetings_of) KX (by k_is) (by k_is) (by k_is) (by k_is)
    have d_are_parallels := Fa.fnA_ex (x := "are_parallels") (st := Fa.s_are_parallels) KX (by k_is) (by k_is) (by k_is) (by k_is)
    have d_meeting_costs := Fa.fnA_ex (x := "meeting_costs") (st := Fa.s_meeting_costs) KX (by k_is) (by k_is) (by k_is) (by k_is)
    have d_voices_cost := Fa.fnA_ex (x := "voices_cost") (st := Fa.s_voices_cost) KX (by k_is) (by k_is) (by k_is) (by k_is)
    have d_times_above := Fa.fnA_ex (x := "times_above") (st := Fa.s_times_above) KX (by k_is) (by k_is) (by k_is) (by k_is)
    have d_Entry_init := Fa.mtA_ex (m := "__init__") (qual := "Entry.__init__") (st := Fa.s_Entry_init) k_Entry (by k_is) (by k_is) (by k_is) (by k_is) (by k_is)
    have d_Entry_numbers_told := Fa.mtA_ex (m := "numbers_told") (qual := "Entry.numbers_told") (st := Fa.s_Entry_numbers_told) k_Entry (by k_is) (by k_is) (by k_is) (by k_is) (by k_is)
    have d_is_place := Fa.fnA_ex (x := "is_place") (st := Fa.s_is_place) KX (by k_is) (by k_is) (by k_is) (by k_is)
    have d_overlap := Fa.fnA_ex (x := "overlap") (st := Fa.s_overlap) KX (by k_is) (by k_is) (by k_is) (by k_is)
    have d_cost_against := Fa.fnA_ex (x := "cost_against") (st := Fa.s_cost_against) KX (by k_is) (by k_is) (by k_is) (by k_is)
    have d_cost_of_all := Fa.fnA_ex (x := "cost_of_all") (st := Fa.s_cost_of_all) KX (by k_is) (by k_is) (by k_is) (by k_is)
    have d_bad_meetings := Fa.fnA_ex (x := "bad_meetings") (st := Fa.s_bad_meetings) KX (by k_is) (by k_is) (by k_is) (by k_is)
    have d_Prices_init := Fa.mtA_ex (m := "__init__") (qual := "Prices.__init__") (st := Fa.s_Prices_init) k_Prices (by k_is) (by k_is) (by k_is) (by k_is) (by k_is)
    have d_Prices_gap_price := Fa.mtA_ex (m := "gap_price") (qual := "Prices.gap_price") (st := Fa.s_Prices_gap_price) k_Prices (by k_is) (by k_is) (by k_is) (by k_is) (by k_is)
    have d_are_prices := Fa.fnA_ex (x := "are_prices") (st := Fa.s_are_prices) KX (by k_is) (by k_is) (by k_is) (by k_is)
    have d_is_kind := Fa.fnA_ex (x := "is_kind") (st := Fa.s_is_kind) KX (by k_is) (by k_is) (by k_is) (by k_is)
    have d_Piece_init := Fa.mtA_ex (m := "__init__") (qual := "Piece.__init__") (st := Fa.s_Piece_init) k_Piece (by k_is) (by k_is) (by k_is) (by k_is) (by k_is)
    have d_Piece_take_subject := Fa.mtA_ex (m := "take_subject") (qual := "Piece.take_subject") (st := Fa.s_Piece_take_subject) k_Piece (by k_is) (by k_is) (by k_is) (by k_is) (by k_is)
    have d_Piece_take_counter := Fa.mtA_ex (m := "take_counter") (qual := "Piece.take_counter") (st := Fa.s_Piece_take_counter) k_Piece (by k_is) (by k_is) (by k_is) (by k_is) (by k_is)
    have d_Piece_take_prices := Fa.mtA_ex (m := "take_prices") (qual := "Piece.take_prices") (st := Fa.s_Piece_take_prices) k_Piece (by k_is) (by k_is) (by k_is) (by k_is) (by k_is)
    have d_Piece_tell_answer := Fa.mtA_ex (m := "tell_answer") (qual := "Piece.tell_answer") (st := Fa.s_Piece_tell_answer) k_Piece (by k_is) (by k_is) (by k_is) (by k_is) (by k_is)
    have d_Piece_tell_line := Fa.mtA_ex (m := "tell_line") (qual := "Piece.tell_line") (st := Fa.s_Piece_tell_line) k_Piece (by k_is) (by k_is) (by k_is) (by k_is) (by k_is)
    have d_Piece_tell_swap := Fa.mtA_ex (m := "tell_swap") (qual := "Piece.tell_swap") (st := Fa.s_Piece_tell_swap) k_Piece (by k_is) (by k_is) (by k_is) (by k_is) (by k_is)
    have d_Piece_tell_swaps := Fa.mtA_ex (m := "tell_swaps") (qual := "Piece.tell_swaps") (st := Fa.s_Piece_tell_swaps) k_Piece (by k_is) (by k_is) (by k_is) (by k_is) (by k_is)
    have d_Piece_take_entry := Fa.mtA_ex (m := "take_entry") (qual := "Piece.take_entry") (st := Fa.s_Piece_take_entry) k_Piece (by k_is) (by k_is) (by k_is) (by k_is) (by k_is)
    have d_Piece_tell_best := Fa.mtA_ex (m := "tell_best") (qual := "Piece.tell_best") (st := Fa.s_Piece_tell_best) k_Piece (by k_is) (by k_is) (by k_is) (by k_is) (by k_is)
    have d_Piece_drop_entry := Fa.mtA_ex (m := "drop_entry") (qual := "Piece.drop_entry") (st := Fa.s_Piece_drop_entry) k_Piece (by k_is) (by k_is) (by k_is) (by k_is) (by k_is)
    have d_Piece_tell_cost := Fa.mtA_ex (m := "tell_cost") (qual := "Piece.tell_cost") (st := Fa.s_Piece_tell_cost) k_Piece (by k_is) (by k_is) (by k_is) (by k_is) (by k_is)
    have d_Piece_tell_bad := Fa.mtA_ex (m := "tell_bad") (qual := "Piece.tell_bad") (st := Fa.s_Piece_tell_bad) k_Piece (by k_is) (by k_is) (by k_is) (by k_is) (by k_is)
    have d_Piece_tell_entries := Fa.mtA_ex (m := "tell_entries") (qual := "Piece.tell_entries") (st := Fa.s_Piece_tell_entries) k_Piece (by k_is) (by k_is) (by k_is) (by k_is) (by k_is)
    have d_Piece_is_entry := Fa.mtA_ex (m := "is_entry") (qual := "Piece.is_entry") (st := Fa.s_Piece_is_entry) k_Piece (by k_is) (by k_is) (by k_is) (by k_is) (by k_is)
    have d_Piece_made_entry := Fa.mtA_ex (m := "made_entry") (qual := "Piece.made_entry") (st := Fa.s_Piece_made_entry) k_Piece (by k_is) (by k_is) (by k_is) (by k_is) (by k_is)
    have d_Piece_entry_refusal := Fa.mtA_ex (m := "entry_refusal") (qual := "Piece.entry_refusal") (st := Fa.s_Piece_entry_refusal) k_Piece (by k_is) (by k_is) (by k_is) (by k_is) (by k_is)
    have d_Piece_line_of_kind := Fa.mtA_ex (m := "line_of_kind") (qual := "Piece.line_of_kind") (st := Fa.s_Piece_line_of_kind) k_Piece (by k_is) (by k_is) (by k_is) (by k_is) (by k_is)
    have d_Piece_lowered_counter := Fa.mtA_ex (m := "lowered_counter") (qual := "Piece.lowered_counter") (st := Fa.s_Piece_lowered_counter) k_Piece (by k_is) (by k_is) (by k_is) (by k_is) (by k_is)
    have d_Piece_cost_lowered := Fa.mtA_ex (m := "cost_lowered") (qual := "Piece.cost_lowered") (st := Fa.s_Piece_cost_lowered) k_Piece (by k_is) (by k_is) (by k_is) (by k_is) (by k_is)
    have d_Piece_times_still_above := Fa.mtA_ex (m := "times_still_above") (qual := "Piece.times_still_above") (st := Fa.s_Piece_times_still_above) k_Piece (by k_is) (by k_is) (by k_is) (by k_is) (by k_is)
    have d_read_calls := Fa.fnA_ex (x := "read_calls") (st := Fa.s_read_calls) KX (by k_is) (by k_is) (by k_is) (by k_is)
    have d_answer_call := Fa.fnA_ex (x := "answer_call") (st := Fa.s_answer_call) KX (by k_is) (by k_is) (by k_is) (by k_is)
    have d_answers := Fa.fnA_ex (x := "answers") (st := Fa.s_answers) KX (by k_is) (by k_is) (by k_is) (by k_is)
    exact Fa.all_mk (A := ⟨_, _, _, _, _, _, _⟩) KX G hmg (Fa.Txt.mk c_STEPS_OF_AN_OCTAVE c_FIFTH c_FIFTH_OF_A_DOMINANT c_TONIC_DEGREE c_DOMINANT_DEGREE c_HIGHEST_STEP c_LONGEST_LENGTH c_REST c_NOTE c_NUMBERS_OF_A_REST c_NUMBERS_OF_A_NOTE c_LAST_TIME c_MOST_OCTAVES c_LAST_VOICE c_HOW_MANY_NUMBERS c_OFF_BEAT_FROM c_PARALLELS_AT c_BEAT_AT c_HIGHEST_PRICE c_LONGEST_BEAT c_FIRST_TONIC c_MOST_EVENTS c_LAST_SWAP c_MOST_ENTRIES c_SUBJECT_KIND c_ANSWER_KIND c_COUNTER_KIND c_RAISED_COUNTER_KIND c_OUT_OF_RANGE c_NO_LIST_OF_EVENTS c_NO_ENTRY c_OVERLAP c_WRONG_COUNT c_NO_LINE c_SUBJECT_CALL c_COUNTER_CALL c_PRICES_CALL c_ANSWER_CALL c_LINE_CALL c_SWAP_CALL c_SWAPS_CALL c_ENTER_CALL c_BEST_CALL c_DROP_CALL c_COST_CALL c_BAD_CALL c_ENTRIES_CALL t_PARALLEL_GAPS.1 t_PARALLEL_GAPS.2 t_FIRST_PRICES.1 t_FIRST_PRICES.2 t_OCTAVES_TO_CHOOSE.1 t_OCTAVES_TO_CHOOSE.2 b_abs b_all b_any b_enumerate b_len b_min b_range b_set b_sorted b_sum k_Moment.cl n_Moment_first n_Moment_second n_Moment_time k_Entry.cl n_Entry_end n_Entry_kind n_Entry_octaves n_Entry_part n_Entry_time n_Entry_voice k_Prices.cl n_Prices_beat n_Prices_off_beat n_Prices_on_beat n_Prices_parallels k_Piece.cl n_Piece_counter n_Piece_entries n_Piece_prices n_Piece_subject n_Piece_tonic) (Fa.Defs.mk k_Moment k_Entry k_Prices k_Piece d_is_step d_is_length d_read_event d_read_events d_tell_events d_line_length d_degree d_head_size d_raised_event d_raised d_is_dominant d_answer_of d_changed_by_answer d_Moment_init d_Moment_is_meeting d_Moment_gap d_placed d_step_at d_moments_of d_meetings_of d_are_parallels d_meeting_costs d_voices_cost d_times_above d_Entry_init d_Entry_numbers_told d_is_place d_overlap d_cost_against d_cost_of_all d_bad_meetings d_Prices_init d_Prices_gap_price d_are_prices d_is_kind d_Piece_init d_Piece_take_subject d_Piece_take_counter d_Piece_take_prices d_Piece_tell_answer d_Piece_tell_line d_Piece_tell_swap d_Piece_tell_swaps d_Piece_take_entry d_Piece_tell_best d_Piece_drop_entry d_Piece_tell_cost d_Piece_tell_bad d_Piece_tell_entries d_Piece_is_entry d_Piece_made_entry d_Piece_entry_refusal d_Piece_line_of_kind d_Piece_lowered_counter d_Piece_cost_lowered d_Piece_times_still_above d_read_calls d_answer_call d_answers)
  case S =>
    intro K H xs a hO hwi hask hx
    cases hx with
    | cons h1 h2 =>
      cases h2
      cases h1 with
      | lst hs ha =>
        have e := L2.ints_dw a.1 _ ha
        subst e
        have hask' : PyCp08.answers_asked a.1 = true := hask
        obtain ⟨ds, R⟩ := Fa.req_of hask'
        rw [R.flat] at hs
        refine ⟨_, ds, rfl, hs, R.few, R.call, by rw [← R.due]; exact R.short, fun H' p hp => ?_⟩
        rw [← R.due] at hp
        exact .lst (L2.SqL.of hp) (L2.dw_ints _)
