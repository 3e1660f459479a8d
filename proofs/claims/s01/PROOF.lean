import PyProof.Rows.All
import Wide.All
import OpenK.AllK
import Wide.FinOn
import PyProof.EqAt
import PyProof.EqKinds
import PyProof.TupleCall
import HandS.Base
import HandS.Call
import HandS.List
import HandS.Comp
import HandS.Ends
import HandS.Dict
import HandS.Iter
import HandS.Text
import HandS.Words
import HandS.WordsList
import HandS.Evl
import HandS.Conv
import HandS.Walk
import KE.KRevSl
import KE.KSortTupG
import KE.KDictSum
import KE.KDictCopyH
import HandS.Keys
import HandS.DictTup
import KE.KLam
import KE.KSortKey
import HandS.Lambda
import HandS.Nested
import HandS.SortKw
import HandS.Spec
import HandS.EndTab
import KE.KNest
import KE.OsGo
import HandS.Strs
import HandS.WideBits
import PyProof.MinMaxWalk
import KE.KEqSeq
import KE.KEqDeep
import PySem.Challenge.RW_sharedout_s01_answers
import Open.SpecLaws
set_option Elab.async false
set_option linter.all false
set_option maxRecDepth 100000
set_option maxHeartbeats 8000000
/-! plain mathematics of sets that are numbers -/
namespace Sh
open Dr01 (Fun Set_ has with_ val things sets)
theorem and_has : ∀ {s : Nat}, s < 32 → ∀ {t : Nat}, t < 6 → 1 ≤ t → decide (s &&& 2 ^ (t - 1) ≠ 0) = has s t := by decide +kernel
theorem or_with : ∀ {s : Nat}, s < 32 → ∀ {t : Nat}, t < 6 → 1 ≤ t → s ||| 2 ^ (t - 1) = with_ s t := by decide +kernel
theorem with_lt : ∀ {n : Nat}, n < 6 → ∀ {s : Nat}, s < 2 ^ n → ∀ {t : Nat}, t < n + 1 → 1 ≤ t → with_ s t < 2 ^ n := by decide +kernel
theorem pow_le {n : Nat} (h : n ≤ 5) : 2 ^ n ≤ 32 := Nat.pow_le_pow_right (n := 2) (by decide) h
/-- a function on sets of one to five things, with a value for each set -/
structure Wf (f : Fun) : Prop where
  lo : 1 ≤ f.many
  hi : f.many ≤ 5
  len : f.vals.length = 2 ^ f.many
theorem Wf.lt {f : Fun} (w : Wf f) {s : Nat} (h : s < 2 ^ f.many) : s < 32 := Nat.lt_of_lt_of_le h (pow_le w.hi)
theorem Wf.at {f : Fun} (w : Wf f) {s : Nat} (h : s < 2 ^ f.many) : f.vals[s]? = some (val f s) := by
  unfold val
  rw [List.getD_eq_getElem?_getD, List.getElem?_eq_getElem (by rw [w.len]; exact h)]
  rfl
theorem Wf.with {f : Fun} (w : Wf f) {s t : Nat} (h : s < 2 ^ f.many) (h1 : 1 ≤ t) (h2 : t ≤ f.many) : with_ s t < 2 ^ f.many :=
  with_lt (by have := w.hi; omega) h (by omega) h1
theorem mem_things {f : Fun} {i : Nat} : i ∈ things f ↔ 1 ≤ i ∧ i ≤ f.many := by
  unfold things
  rw [List.mem_map]
  constructor
  · rintro ⟨j, hj, rfl⟩
    have := List.mem_range.mp hj
    omega
  · rintro ⟨h1, h2⟩
    exact ⟨i - 1, List.mem_range.mpr (by omega), by omega⟩
end Sh
namespace Sh
open Dr01 (Fun Set_ has with_ val things sets)
theorem with_comm : ∀ {s : Nat}, s < 32 → ∀ {a : Nat}, a < 6 → ∀ {b : Nat}, b < 6 → with_ (with_ s a) b = with_ (with_ s b) a := by decide +kernel
def worse (f : Fun) (c o t : Nat) : Bool := decide (t ≠ o) && decide (Dr01.brings f c t < Dr01.brings f (with_ c o) t)
def nbm (f : Fun) (c : Nat) (out : List Nat) : Bool := out.all fun o => out.all fun t => !worse f c o t
def outs (f : Fun) (c : Nat) : List Nat := (things f).filter fun t => !has c t
def kindB (f : Fun) : Bool := decide (val f 0 = 0) && (List.range (2 ^ f.many)).all fun c => nbm f c (outs f c)
theorem find_none {α : Type} {p : α → Bool} : ∀ l : List α, ((l.find? p).isNone = true ↔ ∀ x ∈ l, ¬ p x = true)
  | l => by
    rw [Option.isNone_iff_eq_none, List.find?_eq_none]
theorem worse_symm {f : Fun} (w : Wf f) {c o t : Nat} (hc : c < 2 ^ f.many) (ho : o ≤ f.many) (ht : t ≤ f.many) : (Dr01.brings f c t < Dr01.brings f (with_ c o) t) ↔ (Dr01.brings f c o < Dr01.brings f (with_ c t) o) := by
  unfold Dr01.brings
  have := w.hi
  rw [with_comm (w.lt hc) (a := o) (by omega) (b := t) (by omega)]
  generalize val f (with_ (with_ c t) o) = x
  generalize val f (with_ c t) = y
  generalize val f (with_ c o) = z
  omega
theorem fits_eq {f : Fun} (w : Wf f) : Dr02.fits f = kindB f := by
  unfold Dr02.fits kindB
  have e : Dr01.isKind f 0 = (List.range (2 ^ f.many)).all fun c => nbm f c (outs f c) := by
    rw [Bool.eq_iff_iff]
    unfold Dr01.isKind Dr01.first
    rw [find_none]
    simp only [List.all_eq_true, nbm, outs]
    constructor
    · intro h c hc o ho t ht
      have hc' := List.mem_range.mp hc
      obtain ⟨ho1, ho2⟩ := List.mem_filter.mp ho
      obtain ⟨ht1, ht2⟩ := List.mem_filter.mp ht
      have ho3 := mem_things.mp ho1
      have ht3 := mem_things.mp ht1
      unfold worse
      by_cases q : t = o
      · simp [q]
      · have key : ¬ (Dr01.brings f c t < Dr01.brings f (with_ c o) t) := by
          rcases Nat.lt_or_gt_of_ne q with hlt | hlt
          · rw [worse_symm w hc' ho3.2 ht3.2]
            have := h (c, t, o) (by
              unfold Dr01.faults
              refine List.mem_flatMap.mpr ⟨c, hc, List.mem_flatMap.mpr ⟨t, ht1, List.mem_map.mpr ⟨o, List.mem_filter.mpr ⟨ho1, ?_⟩, rfl⟩⟩⟩
              simp only [Bool.and_eq_true, decide_eq_true_eq]
              exact ⟨hlt, ht2, ho2⟩)
            simpa [Dr01.breaks] using this
          · have := h (c, o, t) (by
              unfold Dr01.faults
              refine List.mem_flatMap.mpr ⟨c, hc, List.mem_flatMap.mpr ⟨o, ho1, List.mem_map.mpr ⟨t, List.mem_filter.mpr ⟨ht1, ?_⟩, rfl⟩⟩⟩
              simp only [Bool.and_eq_true, decide_eq_true_eq]
              exact ⟨hlt, ho2, ht2⟩)
            simpa [Dr01.breaks] using this
        simp [key]
    · intro h x hx
      unfold Dr01.faults at hx
      obtain ⟨c, hc, hx⟩ := List.mem_flatMap.mp hx
      obtain ⟨o, ho1, hx⟩ := List.mem_flatMap.mp hx
      obtain ⟨t, ht, rfl⟩ := List.mem_map.mp hx
      obtain ⟨ht1, ht2⟩ := List.mem_filter.mp ht
      simp only [Bool.and_eq_true, decide_eq_true_eq] at ht2
      have := h c hc o (List.mem_filter.mpr ⟨ho1, ht2.2.1⟩) t (List.mem_filter.mpr ⟨ht1, ht2.2.2⟩)
      unfold worse at this
      have hne : t ≠ o := by omega
      simpa [Dr01.breaks, hne] using this
  rw [e]
  congr 1
end Sh
/-! plain mathematics: corners by an order, points -/
namespace Sh
open Dr01 (Fun Set_ has with_ val things sets)
theorem byOrder_snoc (f : Fun) (t : Nat) : ∀ (l : List Nat) (s : Nat), Dr02.byOrder f s (l ++ [t]) = Dr02.byOrder f s l ++ [(t, val f (with_ (l.foldl with_ s) t) - val f (l.foldl with_ s))]
  | [], s => rfl
  | i :: l, s => by
    show (i, _) :: Dr02.byOrder f (with_ s i) (l ++ [t]) = (i, _) :: (Dr02.byOrder f (with_ s i) l ++ _)
    rw [byOrder_snoc f t l]
    rfl
theorem byOrder_none (f : Fun) (u : Nat) : ∀ (l : List Nat) (s : Nat), u ∉ l → (Dr02.byOrder f s l).find? (fun p => p.1 == u) = none
  | [], s, _ => rfl
  | i :: l, s, h => by
    have h1 : ¬ i = u := fun e => h (by rw [e]; exact List.mem_cons_self ..)
    show List.find? _ ((i, _) :: Dr02.byOrder f (with_ s i) l) = none
    rw [List.find?_cons_of_neg (by simpa using h1)]
    exact byOrder_none f u l _ fun m => h (List.mem_cons_of_mem _ m)
def share (f : Fun) (l : List Nat) (u : Nat) : Int := (((Dr02.byOrder f 0 l).find? fun p => p.1 == u).map fun p => p.2).getD 0
theorem vertex_eq (f : Fun) (l : List Nat) : Dr02.vertex f l = (things f).map (share f l) := rfl
theorem share_snoc {f : Fun} {l : List Nat} {t : Nat} (ht : t ∉ l) (u : Nat) : share f (l ++ [t]) u = if u = t then val f (with_ (l.foldl with_ 0) t) - val f (l.foldl with_ 0) else share f l u := by
  unfold share
  rw [byOrder_snoc, List.find?_append]
  by_cases e : u = t
  · rw [if_pos e, e, byOrder_none f t l 0 ht]
    simp
  · rw [if_neg e]
    have e2 : ¬ t = u := fun z => e z.symm
    cases q : (Dr02.byOrder f 0 l).find? (fun p => p.1 == u) with
    | some p => rfl
    | none => simp [e2]
theorem things_get {f : Fun} {i : Nat} (h : i < f.many) : (things f)[i]? = some (i + 1) := by
  unfold things
  rw [List.getElem?_map, List.getElem?_range h]
  rfl
theorem things_len (f : Fun) : (things f).length = f.many := by
  unfold things
  rw [List.length_map, List.length_range]
theorem vertex_len (f : Fun) (l : List Nat) : (Dr02.vertex f l).length = f.many := by
  rw [vertex_eq, List.length_map, things_len]
theorem vertex_snoc {f : Fun} {l : List Nat} {t : Nat} (ht : t ∉ l) (h1 : 1 ≤ t) (h2 : t ≤ f.many) : Dr02.vertex f (l ++ [t]) = (Dr02.vertex f l).set (t - 1) (Dr01.brings f (l.foldl with_ 0) t) := by
  refine List.ext_getElem? fun i => ?_
  rw [List.getElem?_set]
  by_cases hi : i < f.many
  · rw [vertex_eq, List.getElem?_map, things_get hi]
    show some (share f (l ++ [t]) (i + 1)) = _
    rw [share_snoc ht]
    by_cases e : t - 1 = i
    · rw [if_pos (by omega), if_pos e, if_pos (by rw [vertex_len]; omega)]
      rfl
    · rw [if_neg (by omega), if_neg e, vertex_eq, List.getElem?_map, things_get hi]
      rfl
  · rw [List.getElem?_eq_none (by rw [vertex_len]; omega), if_neg (by omega), List.getElem?_eq_none (by rw [vertex_len]; omega)]
theorem vertex_nil (f : Fun) : Dr02.vertex f [] = List.replicate f.many 0 := by
  rw [vertex_eq]
  refine List.ext_getElem? fun i => ?_
  by_cases hi : i < f.many
  · rw [List.getElem?_map, things_get hi, List.getElem?_replicate, if_pos hi]
    rfl
  · rw [List.getElem?_eq_none (by rw [List.length_map, things_len]; omega), List.getElem?_eq_none (by rw [List.length_replicate]; omega)]
theorem fold_lt {f : Fun} (w : Wf f) : ∀ (l : List Nat) (s : Nat), s < 2 ^ f.many → (∀ t ∈ l, 1 ≤ t ∧ t ≤ f.many) → l.foldl with_ s < 2 ^ f.many
  | [], s, h, _ => h
  | t :: l, s, h, hl => by
    have ht := hl t (List.mem_cons_self ..)
    exact fold_lt w l (with_ s t) (w.with h ht.1 ht.2) fun u hu => hl u (List.mem_cons_of_mem _ hu)
/-! points -/
def evensN : List Nat → List Nat
  | [] => []
  | [x] => [x]
  | x :: _ :: r => x :: evensN r
def pointsOf (l : List Nat) : List (Nat × Nat) := (evensN l).zip (evensN (l.drop 1))
def pointsB (n : Nat) (l : List Nat) : Bool := decide (l.length % 2 = 0) && decide (l.length ≤ 40) && ((evensN l).all fun z => decide (z ≤ 1000)) && ((evensN (l.drop 1)).all fun z => decide (z ≤ 2 ^ n - 1))
theorem evensN_drop : ∀ (x y : Nat) (r : List Nat), evensN ((x :: y :: r).drop 1) = y :: evensN (r.drop 1)
  | x, y, [] => rfl
  | x, y, [z] => rfl
  | x, y, z :: w :: r => rfl
theorem covered_some (n : Nat) : ∀ (l : List Nat) (c : List (Nat × Nat)), Dr01.covered n l = some c → l.length % 2 = 0 ∧ c = pointsOf l ∧ c.length = l.length / 2 ∧ ((evensN l).all fun z => decide (z ≤ 1000)) = true ∧ ((evensN (l.drop 1)).all fun z => decide (z ≤ 2 ^ n - 1)) = true
  | [], c, h => by
    cases h
    exact ⟨rfl, rfl, rfl, rfl, rfl⟩
  | [x], c, h => by
    cases h
  | x :: y :: r, c, h => by
    unfold Dr01.covered at h
    split at h
    · rename_i hxy
      cases q : Dr01.covered n r with
      | none =>
        rw [q] at h
        cases h
      | some d =>
        rw [q] at h
        cases h
        obtain ⟨h1, h2, h3, h4, h5⟩ := covered_some n r d q
        have hp : 0 < 2 ^ n := Nat.pos_of_ne_zero (by simp)
        refine ⟨by simp only [List.length_cons]; omega, ?_, by simp only [List.length_cons]; omega, ?_, ?_⟩
        · unfold pointsOf
          rw [evensN_drop, h2]
          rfl
        · show (x :: evensN r).all _ = true
          rw [List.all_cons, h4]
          simp [hxy.1]
        · rw [evensN_drop, List.all_cons, h5]
          have := hxy.2
          simp
          omega
    · cases h
theorem covered_none (n : Nat) : ∀ (l : List Nat), Dr01.covered n l = none → l.length % 2 = 0 → ((evensN l).all fun z => decide (z ≤ 1000)) = true → ((evensN (l.drop 1)).all fun z => decide (z ≤ 2 ^ n - 1)) = true → False
  | [], h, _, _, _ => by cases h
  | [x], h, h0, _, _ => by simp at h0
  | x :: y :: r, h, h0, h1, h2 => by
    have hp : 0 < 2 ^ n := Nat.pos_of_ne_zero (by simp)
    rw [evensN_drop, List.all_cons, Bool.and_eq_true] at h2
    have h1' : (x :: evensN r).all (fun z => decide (z ≤ 1000)) = true := h1
    rw [List.all_cons, Bool.and_eq_true] at h1'
    have a1 := of_decide_eq_true h1'.1
    have a2 := of_decide_eq_true h2.1
    unfold Dr01.covered at h
    rw [if_pos ⟨a1, by omega⟩] at h
    cases q : Dr01.covered n r with
    | none => exact covered_none n r q (by simp only [List.length_cons] at h0; omega) h1'.2 h2.2
    | some d =>
      rw [q] at h
      cases h
/-- what cover makes of its row -/
theorem points_case (n : Nat) (l : List Nat) : (pointsB n l = true ∧ Dr01.covered n l = some (pointsOf l) ∧ (pointsOf l).length ≤ 20) ∨
    (pointsB n l = false ∧ ∀ c, Dr01.covered n l = some c → 20 < c.length) := by
  cases q : Dr01.covered n l with
  | none =>
    refine .inr ⟨?_, fun c h => by cases h⟩
    cases e : pointsB n l with
    | false => rfl
    | true =>
      unfold pointsB at e
      simp only [Bool.and_eq_true] at e
      obtain ⟨⟨⟨e1, _⟩, e3⟩, e4⟩ := e
      exact (covered_none n l q (of_decide_eq_true e1) e3 e4).elim
  | some c =>
    obtain ⟨h1, h2, h3, h4, h5⟩ := covered_some n l c q
    by_cases h : l.length ≤ 40
    · refine .inl ⟨?_, by rw [h2], by rw [← h2, h3]; omega⟩
      unfold pointsB
      rw [h4, h5, decide_eq_true h1, decide_eq_true h]
      rfl
    · refine .inr ⟨?_, fun d hd => ?_⟩
      · unfold pointsB
        rw [decide_eq_false h]
        simp
      · cases hd
        omega
def wnums (l : List Nat) (s : Nat) : List Int := ((pointsOf l).filter fun p => decide (p.2 &&& s ≠ 0)).map fun p => ((p.1 : Nat) : Int)
def wmet (l : List Nat) (s : Nat) : Int := (wnums l s).sum
theorem wmet_eq (s : Nat) : ∀ c : List (Nat × Nat), ((c.filter fun p => decide (p.2 &&& s ≠ 0)).map fun p => ((p.1 : Nat) : Int)).sum = (c.map fun x => if Dr01.meet x.2 s = 0 then (0 : Int) else (x.1 : Int)).foldr (fun a b => a + b) 0
  | [] => rfl
  | x :: c => by
    have ih := wmet_eq s c
    rw [List.map_cons, List.foldr_cons, ← ih]
    by_cases h : x.2 &&& s = 0
    · have h' : Dr01.meet x.2 s = 0 := h
      rw [if_pos h', List.filter_cons_of_neg (by simp [h])]
      omega
    · have h' : ¬ Dr01.meet x.2 s = 0 := h
      rw [if_neg h', List.filter_cons_of_pos (by simp [h]), List.map_cons, List.sum_cons]
theorem ofCover_vals (n : Nat) (l : List Nat) : (Dr01.ofCover n (pointsOf l)).vals = (List.range (2 ^ n)).map (wmet l) := by
  unfold Dr01.ofCover wmet wnums
  refine List.map_congr_left fun s _ => ?_
  exact (wmet_eq s _).symm
end Sh
/-! all orders of some things, made by putting in -/
namespace Sh
open Dr01 (Fun Set_ has with_ val things sets)
def ins (t : Nat) (l : List Nat) : List (List Nat) := (List.range (l.length + 1)).map fun k => l.take k ++ [t] ++ l.drop k
def ordsP (ts : List Nat) : List (List Nat) := ts.foldl (fun acc t => acc.flatMap (ins t)) [[]]
theorem ordsP_snoc (ts : List Nat) (t : Nat) : ordsP (ts ++ [t]) = (ordsP ts).flatMap (ins t) := by
  unfold ordsP
  rw [List.foldl_append]
  rfl
theorem ins_len (t : Nat) (l : List Nat) : (ins t l).length = l.length + 1 := by
  unfold ins
  rw [List.length_map, List.length_range]
theorem ins_perm {t : Nat} {l m : List Nat} (h : m ∈ ins t l) : m.Perm (l ++ [t]) := by
  unfold ins at h
  obtain ⟨k, _, rfl⟩ := List.mem_map.mp h
  have e : (l.take k ++ [t] ++ l.drop k).Perm ([t] ++ (l.take k ++ l.drop k)) := by
    rw [List.append_assoc]
    exact (List.perm_append_comm_assoc _ _ _)
  rw [List.take_append_drop] at e
  exact e.trans List.perm_append_comm
theorem flat_len {g : List Nat → List (List Nat)} {c : Nat} : ∀ {acc : List (List Nat)}, (∀ l ∈ acc, (g l).length = c) → (acc.flatMap g).length = acc.length * c
  | [], _ => by simp
  | l :: acc, h => by
    have ih := flat_len (g := g) (c := c) (acc := acc) fun m hm => h m (List.mem_cons_of_mem _ hm)
    rw [List.flatMap_cons, List.length_append, ih, h l (List.mem_cons_self ..), List.length_cons, Nat.add_mul]
    omega
theorem rev_ind {α : Type} {C : List α → Prop} (h0 : C []) (hs : ∀ l x, C l → C (l ++ [x])) (l : List α) : C l := by
  have : ∀ n (l : List α), l.length = n → C l := fun n => by
    induction n with
    | zero =>
      intro l h
      rw [List.length_eq_zero_iff.mp h]
      exact h0
    | succ n ih =>
      intro l h
      have hne : l ≠ [] := fun e => by rw [e] at h; simp at h
      rw [← List.dropLast_concat_getLast hne]
      exact hs _ _ (ih _ (by rw [List.length_dropLast, h]; rfl))
  exact this _ l rfl
theorem ordsP_perm : ∀ (ts : List Nat) (m : List Nat), m ∈ ordsP ts → m.Perm ts := by
  refine rev_ind (C := fun ts => ∀ m, m ∈ ordsP ts → m.Perm ts) (fun m h => ?_) (fun ts t ih m h => ?_)
  · have : m = [] := by simpa [ordsP] using h
    rw [this]
  · rw [ordsP_snoc] at h
    obtain ⟨l, hl, hm⟩ := List.mem_flatMap.mp h
    exact (ins_perm hm).trans ((ih l hl).append_right [t])
def facs : Nat → Nat
  | 0 => 1
  | n + 1 => facs n * (n + 1)
theorem ordsP_len : ∀ ts : List Nat, (ordsP ts).length = facs ts.length := by
  refine rev_ind (C := fun ts => (ordsP ts).length = facs ts.length) rfl fun ts t ih => ?_
  rw [ordsP_snoc, flat_len (c := ts.length + 1) fun l hl => by rw [ins_len, (ordsP_perm ts l hl).length_eq], ih, List.length_append]
  rfl
theorem facs_le {n : Nat} (h : n ≤ 5) : facs n ≤ 120 := by
  have : n = 0 ∨ n = 1 ∨ n = 2 ∨ n = 3 ∨ n = 4 ∨ n = 5 := by omega
  rcases this with rfl | rfl | rfl | rfl | rfl | rfl <;> decide
/-- every order is among them -/
theorem ordsP_all : ∀ (ts m : List Nat), m.Perm ts → m ∈ ordsP ts := by
  refine rev_ind (C := fun ts => ∀ m : List Nat, m.Perm ts → m ∈ ordsP ts) (fun m h => ?_) (fun ts t ih m h => ?_)
  · rw [h.eq_nil]
    exact List.mem_singleton.mpr rfl
  · have ht : t ∈ m := h.mem_iff.mpr (by simp)
    obtain ⟨a, b, rfl⟩ := List.append_of_mem ht
    have hp : (a ++ b).Perm ts := by
      have e1 : (a ++ t :: b).Perm (t :: (a ++ b)) := List.perm_middle
      have e2 : (ts ++ [t]).Perm (t :: ts) := List.perm_append_comm
      exact ((e1.symm.trans h).trans e2).cons_inv
    rw [ordsP_snoc]
    refine List.mem_flatMap.mpr ⟨a ++ b, ih _ hp, ?_⟩
    unfold ins
    refine List.mem_map.mpr ⟨a.length, List.mem_range.mpr (by rw [List.length_append]; omega), ?_⟩
    rw [List.take_left, List.drop_left, List.append_assoc]
    rfl
end Sh
/-! all corners: each once, in order -/
namespace Sh
open Dr01 (Fun Set_ has with_ val things sets)
open Dr02 (earlier place)
theorem earlier_cons (a b : Int) (l m : List Int) : earlier (a :: l) (b :: m) = (decide (a < b) || (a == b && earlier l m)) := rfl
theorem earlier_irrefl : ∀ l : List Int, earlier l l = false
  | [] => rfl
  | a :: l => by
    rw [earlier_cons, earlier_irrefl l]
    simp
theorem earlier_true {a b : Int} {l m : List Int} : earlier (a :: l) (b :: m) = true ↔ a < b ∨ (a = b ∧ earlier l m = true) := by
  rw [earlier_cons]
  simp
theorem earlier_trans : ∀ {a b c : List Int}, earlier a b = true → earlier b c = true → earlier a c = true
  | [], _, _, h, _ => by cases h
  | _ :: _, [], _, h, _ => by cases h
  | _ :: _, _ :: _, [], _, h => by cases h
  | x :: l, y :: m, z :: n, h1, h2 => by
    rw [earlier_true] at h1 h2 ⊢
    rcases h1 with h1 | ⟨h1, h1'⟩ <;> rcases h2 with h2 | ⟨h2, h2'⟩
    · left; omega
    · left; omega
    · left; omega
    · right; exact ⟨by omega, earlier_trans h1' h2'⟩
theorem earlier_total : ∀ {a b : List Int}, a.length = b.length → earlier a b = false → earlier b a = false → a = b
  | [], [], _, _, _ => rfl
  | [], _ :: _, h, _, _ => by simp at h
  | _ :: _, [], h, _, _ => by simp at h
  | x :: l, y :: m, h, h1, h2 => by
    have h1' : ¬ (x < y ∨ (x = y ∧ earlier l m = true)) := fun z => by rw [earlier_true.mpr z] at h1; cases h1
    have h2' : ¬ (y < x ∨ (y = x ∧ earlier m l = true)) := fun z => by rw [earlier_true.mpr z] at h2; cases h2
    have e : x = y := by omega
    subst e
    have e1 : earlier l m = false := by
      cases q : earlier l m with
      | false => rfl
      | true => exact absurd (.inr ⟨rfl, q⟩) h1'
    have e2 : earlier m l = false := by
      cases q : earlier m l with
      | false => rfl
      | true => exact absurd (.inr ⟨rfl, q⟩) h2'
    rw [earlier_total (by simpa using h) e1 e2]
abbrev Rising (l : List (List Int)) : Prop := l.Pairwise fun x y => earlier x y = true
theorem place_mem {x : List Int} : ∀ {l : List (List Int)} {y : List Int}, y ∈ place x l ↔ y = x ∨ y ∈ l
  | [], y => by
    unfold place
    simp
  | z :: l, y => by
    unfold place
    split
    · rename_i e
      rw [e]
      constructor
      · intro h; exact .inr h
      · rintro (h | h)
        · rw [h]; exact List.mem_cons_self ..
        · exact h
    · split
      · simp
      · rw [List.mem_cons, place_mem, List.mem_cons]
        constructor
        · rintro (h | h | h)
          · exact .inr (.inl h)
          · exact .inl h
          · exact .inr (.inr h)
        · rintro (h | h | h)
          · exact .inr (.inl h)
          · exact .inl h
          · exact .inr (.inr h)
theorem place_rising {x : List Int} : ∀ {l : List (List Int)}, (∀ y ∈ l, y.length = x.length) → Rising l → Rising (place x l)
  | [], _, _ => by
    unfold place
    exact List.pairwise_singleton _ _
  | z :: l, hl, h => by
    obtain ⟨h1, h2⟩ := List.pairwise_cons.mp h
    unfold place
    split
    · exact h
    · rename_i ne
      split
      · rename_i e
        refine List.pairwise_cons.mpr ⟨fun y hy => ?_, h⟩
        rcases List.mem_cons.mp hy with rfl | hy
        · exact e
        · exact earlier_trans e (h1 y hy)
      · rename_i e
        have e' : earlier x z = false := by simpa using e
        have hzx : earlier z x = true := by
          cases q : earlier z x with
          | true => rfl
          | false => exact absurd (earlier_total (hl z (List.mem_cons_self ..)).symm e' q) ne
        refine List.pairwise_cons.mpr ⟨fun y hy => ?_, place_rising (fun y hy => hl y (List.mem_cons_of_mem _ hy)) h2⟩
        rcases place_mem.mp hy with rfl | hy
        · exact hzx
        · exact h1 y hy
theorem fold_place {n : Nat} (g : List Nat → List Int) (hg : ∀ l, (g l).length = n) : ∀ (os : List (List Nat)) (acc : List (List Int)), (∀ y ∈ acc, y.length = n) → Rising acc →
    Rising (os.foldl (fun r l => place (g l) r) acc) ∧ ∀ y, y ∈ os.foldl (fun r l => place (g l) r) acc ↔ y ∈ acc ∨ ∃ l ∈ os, y = g l
  | [], acc, _, h => ⟨h, fun y => by simp⟩
  | l :: os, acc, hl, h => by
    have hl' : ∀ y ∈ place (g l) acc, y.length = n := fun y hy => by
      rcases place_mem.mp hy with rfl | hy
      · exact hg l
      · exact hl y hy
    obtain ⟨a, b⟩ := fold_place g hg os (place (g l) acc) hl' (place_rising (fun y hy => by rw [hl y hy, hg]) h)
    refine ⟨a, fun y => ?_⟩
    rw [List.foldl_cons, b y, place_mem]
    constructor
    · rintro ((h | h) | ⟨m, hm, h⟩)
      · exact .inr ⟨l, List.mem_cons_self .., h⟩
      · exact .inl h
      · exact .inr ⟨m, List.mem_cons_of_mem _ hm, h⟩
    · rintro (h | ⟨m, hm, h⟩)
      · exact .inl (.inr h)
      · rcases List.mem_cons.mp hm with rfl | hm
        · exact .inl (.inl h)
        · exact .inr ⟨m, hm, h⟩
/-- two rising lists with the same members are one -/
theorem rising_uniq : ∀ {l m : List (List Int)}, Rising l → Rising m → (∀ y, y ∈ l ↔ y ∈ m) → l = m
  | [], [], _, _, _ => rfl
  | [], y :: m, _, _, h => by have := (h y).mpr (List.mem_cons_self ..); simp at this
  | x :: l, [], _, _, h => by have := (h x).mp (List.mem_cons_self ..); simp at this
  | x :: l, y :: m, hl, hm, h => by
    obtain ⟨a1, a2⟩ := List.pairwise_cons.mp hl
    obtain ⟨b1, b2⟩ := List.pairwise_cons.mp hm
    have e : x = y := by
      rcases List.mem_cons.mp ((h x).mp (List.mem_cons_self ..)) with e | hx
      · exact e
      · rcases List.mem_cons.mp ((h y).mpr (List.mem_cons_self ..)) with e | hy
        · exact e.symm
        · have := earlier_trans (a1 y hy) (b1 x hx)
          rw [earlier_irrefl] at this
          cases this
    subst e
    have hx1 : x ∉ l := fun z => by have := a1 x z; rw [earlier_irrefl] at this; cases this
    have hx2 : x ∉ m := fun z => by have := b1 x z; rw [earlier_irrefl] at this; cases this
    rw [rising_uniq a2 b2 fun y => ?_]
    constructor
    · intro hy
      rcases List.mem_cons.mp ((h y).mp (List.mem_cons_of_mem _ hy)) with e | hy'
      · rw [e] at hy; exact absurd hy hx1
      · exact hy'
    · intro hy
      rcases List.mem_cons.mp ((h y).mpr (List.mem_cons_of_mem _ hy)) with e | hy'
      · rw [e] at hy; exact absurd hy hx2
      · exact hy'
/-- the specification's orders are the permutations -/
theorem orders_perm : ∀ (n : Nat) (ts : List Nat), ts.Nodup → ts.length = n → ∀ l, l ∈ Dr02.orders n ts ↔ l.Perm ts
  | 0, ts, _, hl, l => by
    have e : ts = [] := List.length_eq_zero_iff.mp hl
    subst e
    unfold Dr02.orders
    rw [List.mem_singleton, List.perm_nil]
  | n + 1, ts, hn, hl, l => by
    unfold Dr02.orders
    rw [List.mem_flatMap]
    have hf : ∀ x ∈ ts, (x :: ts.filter fun y => y != x).Perm ts ∧ (ts.filter fun y => y != x).Nodup ∧ (ts.filter fun y => y != x).length = n := fun x hx => by
      have e : ts.filter (fun y => y != x) = ts.erase x := (hn.erase_eq_filter x).symm
      rw [e]
      have p := (List.perm_cons_erase hx).symm
      refine ⟨p, hn.erase x, ?_⟩
      have := p.length_eq
      simp only [List.length_cons] at this
      omega
    constructor
    · rintro ⟨x, hx, hm⟩
      obtain ⟨r, hr, rfl⟩ := List.mem_map.mp hm
      obtain ⟨p, nd, ln⟩ := hf x hx
      exact ((((orders_perm n _ nd ln r).mp hr).cons x)).trans p
    · intro hp
      cases l with
      | nil =>
        have := hp.length_eq
        simp at this
        omega
      | cons x r =>
        have hx : x ∈ ts := hp.mem_iff.mp (List.mem_cons_self ..)
        obtain ⟨p, nd, ln⟩ := hf x hx
        exact ⟨x, hx, List.mem_map.mpr ⟨r, (orders_perm n _ nd ln r).mpr (hp.trans p.symm).cons_inv, rfl⟩⟩
theorem things_nodup (f : Fun) : (things f).Nodup := by
  unfold things
  exact List.Pairwise.map _ (fun a b (h : a ≠ b) => (by omega : a + 1 ≠ b + 1)) List.nodup_range
theorem corners_uniq {f : Fun} {ls : List (List Int)} (hs : ls.Pairwise fun x y => earlier y x = false) (hn : ls.Nodup) (hlen : ∀ x ∈ ls, x.length = f.many) (hm : ∀ y, y ∈ ls ↔ ∃ l, l.Perm (things f) ∧ y = Dr02.vertex f l) : ls = Dr02.corners f := by
  obtain ⟨c1, c2⟩ := fold_place (n := f.many) (Dr02.vertex f) (vertex_len f) (Dr02.orders f.many (things f)) [] (fun y hy => by simp at hy) List.Pairwise.nil
  have hr : Rising ls := by
    refine List.Pairwise.imp_of_mem ?_ (hs.and hn)
    rintro x y hx hy ⟨h1, h2⟩
    cases q : earlier x y with
    | true => rfl
    | false => exact absurd (earlier_total (by rw [hlen x hx, hlen y hy]) q h1) h2
  refine rising_uniq hr c1 fun y => ?_
  rw [hm, show y ∈ Dr02.corners f ↔ _ from c2 y]
  constructor
  · rintro ⟨l, hl, e⟩
    exact .inr ⟨l, (orders_perm _ _ (things_nodup f) (things_len f) l).mpr hl, e⟩
  · rintro (h | ⟨l, hl, e⟩)
    · simp at h
    · exact ⟨l, (orders_perm _ _ (things_nodup f) (things_len f) l).mp hl, e⟩
end Sh
/-! things by their weights -/
namespace Sh
open Dr01 (Fun Set_ has with_ val things sets)
open Dr02 (put)
def bef (w : List Int) (a b : Nat) : Prop := w.getD (b - 1) 0 < w.getD (a - 1) 0 ∨ (w.getD (a - 1) 0 = w.getD (b - 1) 0 ∧ a < b)
theorem bef_irrefl {w : List Int} {a : Nat} : ¬ bef w a a := by
  unfold bef
  omega
theorem bef_trans {w : List Int} {a b c : Nat} (h1 : bef w a b) (h2 : bef w b c) : bef w a c := by
  unfold bef at *
  omega
theorem sorted_uniq {α : Type} {R : α → α → Prop} (ir : ∀ a, ¬ R a a) (tr : ∀ a b c, R a b → R b c → R a c) : ∀ {l m : List α}, l.Pairwise R → m.Pairwise R → (∀ y, y ∈ l ↔ y ∈ m) → l = m
  | [], [], _, _, _ => rfl
  | [], y :: m, _, _, h => by have := (h y).mpr (List.mem_cons_self ..); simp at this
  | x :: l, [], _, _, h => by have := (h x).mp (List.mem_cons_self ..); simp at this
  | x :: l, y :: m, hl, hm, h => by
    obtain ⟨a1, a2⟩ := List.pairwise_cons.mp hl
    obtain ⟨b1, b2⟩ := List.pairwise_cons.mp hm
    have e : x = y := by
      rcases List.mem_cons.mp ((h x).mp (List.mem_cons_self ..)) with e | hx
      · exact e
      · rcases List.mem_cons.mp ((h y).mpr (List.mem_cons_self ..)) with e | hy
        · exact e.symm
        · exact absurd (tr _ _ _ (a1 y hy) (b1 x hx)) (ir x)
    subst e
    have hx1 : x ∉ l := fun z => ir x (a1 x z)
    have hx2 : x ∉ m := fun z => ir x (b1 x z)
    rw [sorted_uniq ir tr a2 b2 fun y => ?_]
    constructor
    · intro hy
      rcases List.mem_cons.mp ((h y).mp (List.mem_cons_of_mem _ hy)) with e | hy'
      · rw [e] at hy; exact absurd hy hx1
      · exact hy'
    · intro hy
      rcases List.mem_cons.mp ((h y).mpr (List.mem_cons_of_mem _ hy)) with e | hy'
      · rw [e] at hy; exact absurd hy hx2
      · exact hy'
theorem put_mem {w : List Int} {i : Nat} : ∀ {l : List Nat} {y : Nat}, y ∈ put w i l ↔ y = i ∨ y ∈ l
  | [], y => by simp [put]
  | j :: l, y => by
    unfold put
    split
    · simp
    · rw [List.mem_cons, put_mem, List.mem_cons]
      constructor
      · rintro (h | h | h)
        · exact .inr (.inl h)
        · exact .inl h
        · exact .inr (.inr h)
      · rintro (h | h | h)
        · exact .inr (.inl h)
        · exact .inl h
        · exact .inr (.inr h)
theorem put_sorted {w : List Int} {i : Nat} : ∀ {l : List Nat}, (∀ j ∈ l, j < i) → l.Pairwise (bef w) → (put w i l).Pairwise (bef w)
  | [], _, _ => by
    unfold put
    exact List.pairwise_singleton _ _
  | j :: l, hl, h => by
    obtain ⟨h1, h2⟩ := List.pairwise_cons.mp h
    have hj := hl j (List.mem_cons_self ..)
    unfold put
    split
    · rename_i c
      have hij : bef w i j := .inl c
      refine List.pairwise_cons.mpr ⟨fun y hy => ?_, h⟩
      rcases List.mem_cons.mp hy with rfl | hy
      · exact hij
      · exact bef_trans hij (h1 y hy)
    · rename_i c
      have hji : bef w j i := by unfold bef; omega
      refine List.pairwise_cons.mpr ⟨fun y hy => ?_, put_sorted (fun y hy => hl y (List.mem_cons_of_mem _ hy)) h2⟩
      rcases put_mem.mp hy with rfl | hy
      · exact hji
      · exact h1 y hy
theorem fold_put {w : List Int} : ∀ (n : Nat), (((List.range n).map fun i => i + 1).foldl (fun l i => put w i l) []).Pairwise (bef w) ∧ ∀ y, y ∈ (((List.range n).map fun i => i + 1).foldl (fun l i => put w i l) []) ↔ 1 ≤ y ∧ y ≤ n
  | 0 => ⟨List.Pairwise.nil, fun y => by simp; omega⟩
  | n + 1 => by
    obtain ⟨h1, h2⟩ := fold_put (w := w) n
    rw [List.range_succ, List.map_append, List.foldl_append]
    show (put w (n + 1) _).Pairwise (bef w) ∧ ∀ y, y ∈ put w (n + 1) _ ↔ _
    refine ⟨put_sorted (fun j hj => by have := (h2 j).mp hj; omega) h1, fun y => ?_⟩
    rw [put_mem, h2]
    omega
theorem byWeight_uniq {f : Fun} {w : List Int} {l : List Nat} (hs : l.Pairwise (bef w)) (hm : ∀ y, y ∈ l ↔ 1 ≤ y ∧ y ≤ f.many) : l = Dr02.byWeight f w := by
  obtain ⟨h1, h2⟩ := fold_put (w := w) f.many
  exact sorted_uniq (fun a => bef_irrefl) (fun a b c => bef_trans) hs h1 fun y => by rw [hm]; exact (h2 y).symm
theorem byWeight_perm (f : Fun) (w : List Int) : (Dr02.byWeight f w).Perm (things f) := by
  obtain ⟨h1, h2⟩ := fold_put (w := w) f.many
  have nd : (Dr02.byWeight f w).Nodup := h1.imp fun {a b} h e => by rw [e] at h; exact bef_irrefl h
  refine (List.perm_ext_iff_of_nodup nd (things_nodup f)).mpr fun y => ?_
  rw [mem_things]
  exact h2 y
end Sh
/-! a list of calls, read call by call -/
namespace Sh
def wh (p : Nat) : Nat := [0, 1, 0, 0, 0, 0, 0, 0, 1, 2, 2, 0, 0].getD p 0
def rw_ (p : Nat) : Nat := [1, 1, 1, 1, 0, 1, 0, 0, 0, 0, 0, 0, 1].getD p 0
def mkCall (p : Nat) (u row : List Nat) : Dr02.Call := match p with
  | 0 => .tell row
  | 1 => .cover (u.getD 0 0) row
  | 2 => .order row
  | 3 => .greed row
  | 4 => .corners
  | 5 => .is row
  | 6 => .base
  | 7 => .tight
  | 8 => .around (u.getD 0 0)
  | 9 => .room (u.getD 0 0) (u.getD 1 0)
  | 10 => .move (u.getD 0 0) (u.getD 1 0)
  | 11 => .fairest
  | _ => .stretch row
structure One where
  p : Nat
  u : List Nat
  row : List Nat
/-- how a call stands in the list -/
def One.seg (c : One) : List Nat := c.p :: (c.u ++ (if rw_ c.p = 1 then c.row.length :: c.row else []))
def One.call (c : One) : Dr02.Call := mkCall c.p c.u c.row
structure One.Ok (c : One) : Prop where
  p : c.p ≤ 12
  u : c.u.length = wh c.p
  row : rw_ c.p = 0 → c.row = []
  len : c.row.length ≤ 50
def segs (cs : List One) : List Nat := cs.flatMap One.seg
def playS : Dr02.St → List One → List (List Int)
  | _, [] => []
  | s, c :: r => (Dr02.step s c.call).2 :: playS (Dr02.step s c.call).1 r
def nn (l : List Int) : List Nat := l.map Int.toNat
/-- one raw call -/
def rawOf (c : One) : List (List Int) := ((c.p : Int) :: c.u.map fun (n : Nat) => (n : Int)) :: (if rw_ c.p = 1 then [c.row.map fun (n : Nat) => (n : Int)] else [])
theorem cast_nn {l : List Int} (h : ∀ x ∈ l, 0 ≤ x) : (nn l).map (fun (n : Nat) => (n : Int)) = l := by
  unfold nn
  rw [List.map_map]
  refine (List.map_congr_left fun x hx => ?_).trans (List.map_id' l)
  show ((x.toNat : Nat) : Int) = x
  have := h x hx
  omega
theorem row_of {r x t : List Int} (hr : ∀ y ∈ r, 0 ≤ y) (h : PyFlat.row r = some (x, t)) : ∃ n : Nat, r = (n : Int) :: (x ++ t) ∧ x.length = n := by
  cases r with
  | nil => cases h
  | cons a s =>
    have h' : (if 0 ≤ a ∧ a.toNat ≤ s.length then some (s.take a.toNat, s.drop a.toNat) else none) = some (x, t) := h
    by_cases c : 0 ≤ a ∧ a.toNat ≤ s.length
    · rw [if_pos c] at h'
      cases h'
      refine ⟨a.toNat, ?_, by rw [List.length_take]; omega⟩
      rw [List.take_append_drop]
      congr 1
      omega
    · rw [if_neg c] at h'
      cases h'
theorem shape_cases {p : Int} {n k : Nat} (h : PyDr02.shape p = some (n, k)) : ∃ q : Nat, p = (q : Int) ∧ q ≤ 12 ∧ n = wh q ∧ k = rw_ q ∧ (k = 0 ∨ k = 1) := by
  by_cases h0 : p = 0
  · subst h0
    have h' : some (0, 1) = some (n, k) := h
    cases h'
    exact ⟨0, rfl, by omega, rfl, rfl, .inr rfl⟩
  by_cases h1 : p = 1
  · subst h1
    have h' : some (1, 1) = some (n, k) := h
    cases h'
    exact ⟨1, rfl, by omega, rfl, rfl, .inr rfl⟩
  by_cases h2 : p = 2
  · subst h2
    have h' : some (0, 1) = some (n, k) := h
    cases h'
    exact ⟨2, rfl, by omega, rfl, rfl, .inr rfl⟩
  by_cases h3 : p = 3
  · subst h3
    have h' : some (0, 1) = some (n, k) := h
    cases h'
    exact ⟨3, rfl, by omega, rfl, rfl, .inr rfl⟩
  by_cases h4 : p = 4
  · subst h4
    have h' : some (0, 0) = some (n, k) := h
    cases h'
    exact ⟨4, rfl, by omega, rfl, rfl, .inl rfl⟩
  by_cases h5 : p = 5
  · subst h5
    have h' : some (0, 1) = some (n, k) := h
    cases h'
    exact ⟨5, rfl, by omega, rfl, rfl, .inr rfl⟩
  by_cases h6 : p = 6
  · subst h6
    have h' : some (0, 0) = some (n, k) := h
    cases h'
    exact ⟨6, rfl, by omega, rfl, rfl, .inl rfl⟩
  by_cases h7 : p = 7
  · subst h7
    have h' : some (0, 0) = some (n, k) := h
    cases h'
    exact ⟨7, rfl, by omega, rfl, rfl, .inl rfl⟩
  by_cases h8 : p = 8
  · subst h8
    have h' : some (1, 0) = some (n, k) := h
    cases h'
    exact ⟨8, rfl, by omega, rfl, rfl, .inl rfl⟩
  by_cases h9 : p = 9
  · subst h9
    have h' : some (2, 0) = some (n, k) := h
    cases h'
    exact ⟨9, rfl, by omega, rfl, rfl, .inl rfl⟩
  by_cases h10 : p = 10
  · subst h10
    have h' : some (2, 0) = some (n, k) := h
    cases h'
    exact ⟨10, rfl, by omega, rfl, rfl, .inl rfl⟩
  by_cases h11 : p = 11
  · subst h11
    have h' : some (0, 0) = some (n, k) := h
    cases h'
    exact ⟨11, rfl, by omega, rfl, rfl, .inl rfl⟩
  by_cases h12 : p = 12
  · subst h12
    have h' : some (0, 1) = some (n, k) := h
    cases h'
    exact ⟨12, rfl, by omega, rfl, rfl, .inr rfl⟩
  unfold PyDr02.shape at h
  rw [if_neg h0, if_neg h1, if_neg h2, if_neg h3, if_neg h4, if_neg h5, if_neg h6, if_neg h7, if_neg h8, if_neg h9, if_neg h10, if_neg h11, if_neg h12] at h
  cases h
theorem call_of {l t : List Int} {c : List (List Int)} (hl : ∀ y ∈ l, 0 ≤ y) (h : PyFlat.call PyDr02.shape l = some (c, t)) : ∃ o : One, o.p ≤ 12 ∧ o.u.length = wh o.p ∧ (rw_ o.p = 0 → o.row = []) ∧ c = rawOf o ∧ nn l = o.seg ++ nn t ∧ (∀ y ∈ t, 0 ≤ y) := by
  cases l with
  | nil => cases h
  | cons p r =>
    cases hs : PyDr02.shape p with
    | none =>
      simp only [PyFlat.call, hs] at h
      cases h
    | some nk =>
      obtain ⟨n, k⟩ := nk
      simp only [PyFlat.call, hs] at h
      obtain ⟨q, rfl, hq, rfl, rfl, hk⟩ := shape_cases hs
      by_cases hlen : r.length < wh q
      · rw [if_pos hlen] at h
        cases h
      · rw [if_neg hlen] at h
        have hr : ∀ y ∈ r, 0 ≤ y := fun y hy => hl y (List.mem_cons_of_mem _ hy)
        have hd : ∀ y ∈ r.drop (wh q), 0 ≤ y := fun y hy => hr y (List.mem_of_mem_drop hy)
        have ht : ∀ y ∈ r.take (wh q), 0 ≤ y := fun y hy => hr y (List.mem_of_mem_take hy)
        rcases hk with hk | hk
        · rw [hk] at h
          simp only [PyFlat.rows] at h
          cases h
          refine ⟨⟨q, nn (r.take (wh q)), []⟩, hq, ?_, fun _ => rfl, ?_, ?_, hd⟩
          · show (nn (r.take (wh q))).length = wh q
            rw [nn, List.length_map, List.length_take]
            omega
          · unfold rawOf
            rw [if_neg (by show ¬ rw_ q = 1; omega), cast_nn ht]
          · unfold One.seg
            rw [if_neg (by show ¬ rw_ q = 1; omega)]
            show nn ((q : Int) :: r) = q :: (nn (r.take (wh q)) ++ []) ++ nn (r.drop (wh q))
            unfold nn
            rw [List.map_cons, Int.toNat_natCast, List.append_nil, List.cons_append, ← List.map_append, List.take_append_drop]
        · rw [hk] at h
          simp only [PyFlat.rows] at h
          cases hrow : PyFlat.row (r.drop (wh q)) with
          | none =>
            simp only [hrow] at h
            cases h
          | some xs =>
            obtain ⟨x, s⟩ := xs
            simp only [hrow] at h
            cases h
            obtain ⟨m, e, hx⟩ := row_of hd hrow
            have hx0 : ∀ y ∈ x, 0 ≤ y := fun y hy => hd y (by rw [e]; exact List.mem_cons_of_mem _ (List.mem_append_left _ hy))
            have ht0 : ∀ y ∈ t, 0 ≤ y := fun y hy => hd y (by rw [e]; exact List.mem_cons_of_mem _ (List.mem_append_right _ hy))
            refine ⟨⟨q, nn (r.take (wh q)), nn x⟩, hq, ?_, fun z => by have z' : rw_ q = 0 := z; omega, ?_, ?_, ht0⟩
            · show (nn (r.take (wh q))).length = wh q
              rw [nn, List.length_map, List.length_take]
              omega
            · unfold rawOf
              rw [if_pos hk, cast_nn ht, cast_nn hx0]
            · unfold One.seg
              rw [if_pos hk]
              show nn ((q : Int) :: r) = q :: (nn (r.take (wh q)) ++ ((nn x).length :: nn x)) ++ nn t
              have e2 : nn r = nn (r.take (wh q)) ++ (m :: (nn x ++ nn t)) := by
                rw [← List.take_append_drop (wh q) r]
                unfold nn
                rw [List.map_append, List.take_append_drop, e, List.map_cons, List.map_append, Int.toNat_natCast]
              have e3 : (nn x).length = m := by rw [nn, List.length_map, hx]
              rw [e3, List.cons_append, List.append_assoc, List.cons_append]
              unfold nn at e2 ⊢
              rw [List.map_cons, e2, Int.toNat_natCast]
theorem calls_of : ∀ (fuel : Nat) (l : List Int) (raw : List (List (List Int))), (∀ y ∈ l, 0 ≤ y) → PyFlat.calls PyDr02.shape fuel l = some raw → ∃ cs : List One, (∀ c ∈ cs, c.p ≤ 12 ∧ c.u.length = wh c.p ∧ (rw_ c.p = 0 → c.row = [])) ∧ raw = cs.map rawOf ∧ nn l = segs cs
  | _, [], raw, _, h => by
    unfold PyFlat.calls at h
    cases h
    exact ⟨[], fun c hc => by simp at hc, rfl, rfl⟩
  | 0, _ :: _, raw, _, h => by cases h
  | f + 1, p :: r, raw, hl, h => by
    cases hc : PyFlat.call PyDr02.shape (p :: r) with
    | none =>
      simp only [PyFlat.calls, hc] at h
      cases h
    | some ct =>
      obtain ⟨c, t⟩ := ct
      cases ht : PyFlat.calls PyDr02.shape f t with
      | none =>
        simp only [PyFlat.calls, hc, ht] at h
        cases h
      | some cs' =>
        simp only [PyFlat.calls, hc, ht] at h
        cases h
        obtain ⟨o, h1, h2, h3, h4, h5, h6⟩ := call_of hl hc
        obtain ⟨cs, a, b, d⟩ := calls_of f t cs' h6 ht
        refine ⟨o :: cs, fun x hx => ?_, by rw [h4, b, List.map_cons], ?_⟩
        · rcases List.mem_cons.mp hx with rfl | hx
          · exact ⟨h1, h2, h3⟩
          · exact a x hx
        · rw [h5, d]
          unfold segs
          rw [List.flatMap_cons]
/-- place by place -/
theorem One.cases {P : One → Prop} (c : One) (hp : c.p ≤ 12) (hu : c.u.length = wh c.p) (hr : rw_ c.p = 0 → c.row = [])
    (h0 : ∀ r, P ⟨0, [], r⟩) (h1 : ∀ a r, P ⟨1, [a], r⟩) (h2 : ∀ r, P ⟨2, [], r⟩) (h3 : ∀ r, P ⟨3, [], r⟩) (h4 : P ⟨4, [], []⟩)
    (h5 : ∀ r, P ⟨5, [], r⟩) (h6 : P ⟨6, [], []⟩) (h7 : P ⟨7, [], []⟩) (h8 : ∀ a, P ⟨8, [a], []⟩) (h9 : ∀ a b, P ⟨9, [a, b], []⟩)
    (h10 : ∀ a b, P ⟨10, [a, b], []⟩) (h11 : P ⟨11, [], []⟩) (h12 : ∀ r, P ⟨12, [], r⟩) : P c := by
  obtain ⟨p, u, r⟩ := c
  dsimp only at hp hu hr
  have z0 : ∀ {u : List Nat}, u.length = 0 → u = [] := fun h => List.eq_nil_of_length_eq_zero h
  have z1 : ∀ {u : List Nat}, u.length = 1 → ∃ a, u = [a] := fun h => List.length_eq_one_iff.mp h
  have z2 : ∀ {u : List Nat}, u.length = 2 → ∃ a b, u = [a, b] := by
    intro u h
    match u, h with
    | [a, b], _ => exact ⟨a, b, rfl⟩
  match p, hp, hu, hr with
  | 0, _, hu, _ => cases z0 hu; exact h0 r
  | 1, _, hu, _ => obtain ⟨a, rfl⟩ := z1 hu; exact h1 a r
  | 2, _, hu, _ => cases z0 hu; exact h2 r
  | 3, _, hu, _ => cases z0 hu; exact h3 r
  | 4, _, hu, hr => cases z0 hu; cases hr rfl; exact h4
  | 5, _, hu, _ => cases z0 hu; exact h5 r
  | 6, _, hu, hr => cases z0 hu; cases hr rfl; exact h6
  | 7, _, hu, hr => cases z0 hu; cases hr rfl; exact h7
  | 8, _, hu, hr => obtain ⟨a, rfl⟩ := z1 hu; cases hr rfl; exact h8 a
  | 9, _, hu, hr => obtain ⟨a, b, rfl⟩ := z2 hu; cases hr rfl; exact h9 a b
  | 10, _, hu, hr => obtain ⟨a, b, rfl⟩ := z2 hu; cases hr rfl; exact h10 a b
  | 11, _, hu, hr => cases z0 hu; cases hr rfl; exact h11
  | 12, _, hu, _ => cases z0 hu; exact h12 r
  | n + 13, hp, _, _ => exact absurd hp (by omega)
/-- its numbers, one behind another -/
def One.flat (c : One) : List Nat := c.p :: (c.u ++ c.row)
theorem whole_raw {c : One} (hp : c.p ≤ 12) (hu : c.u.length = wh c.p) (hr : rw_ c.p = 0 → c.row = []) : (PyDr02.whole (rawOf c)).headD [] = c.flat.map fun (n : Nat) => (n : Int) := by
  refine One.cases (P := fun c => (PyDr02.whole (rawOf c)).headD [] = c.flat.map fun (n : Nat) => (n : Int)) c hp hu hr ?_ ?_ ?_ ?_ ?_ ?_ ?_ ?_ ?_ ?_ ?_ ?_ ?_ <;> intros <;> rfl
theorem callIn_flat {c : One} (hp : c.p ≤ 12) (hu : c.u.length = wh c.p) (hr : rw_ c.p = 0 → c.row = []) : Dr02Neutral.callIn c.flat = some c.call := by
  refine One.cases (P := fun c => Dr02Neutral.callIn c.flat = some c.call) c hp hu hr ?_ ?_ ?_ ?_ ?_ ?_ ?_ ?_ ?_ ?_ ?_ ?_ ?_ <;> intros <;> rfl
theorem nat_ok {n : Nat} (h : n < 4294967296) : Dr02Neutral.nat (n : Int) = true := by
  have e : (2 : Int) ^ 32 = 4294967296 := by decide
  unfold Dr02Neutral.nat
  rw [e, Bool.and_eq_true, decide_eq_true_eq, decide_eq_true_eq]
  exact ⟨Int.natCast_nonneg n, by omega⟩
theorem all_nat {l : List Nat} (hb : ∀ n ∈ l, n < 4294967296) : ((l.map fun (n : Nat) => (n : Int)).all Dr02Neutral.nat) = true := by
  rw [List.all_eq_true]
  intro x hx
  obtain ⟨n, hn, e⟩ := List.mem_map.mp hx
  subst e
  exact nat_ok (hb n hn)
theorem back_nat (l : List Nat) : ((l.map fun (n : Nat) => (n : Int)).map Int.toNat) = l := by
  induction l with
  | nil => rfl
  | cons a l ih => rw [List.map_cons, List.map_cons, ih, Int.toNat_natCast]
theorem callOf_nat {l : List Nat} (hb : ∀ n ∈ l, n < 4294967296) : Dr02Neutral.callOf (l.map fun (n : Nat) => (n : Int)) = Dr02Neutral.callIn l := by
  unfold Dr02Neutral.callOf
  rw [if_neg (by rw [all_nat hb]; exact Bool.noConfusion), back_nat]
theorem step_some {s : Dr02.St} {l : List Int} {x : Dr02.Call} (h : Dr02Neutral.callOf l = some x) : Dr02Neutral.step s l = Dr02.step s x := by
  unfold Dr02Neutral.step
  rw [h]
theorem step_flat {c : One} (hp : c.p ≤ 12) (hu : c.u.length = wh c.p) (hr : rw_ c.p = 0 → c.row = []) (hb : ∀ n ∈ c.flat, n < 4294967296) (s : Dr02.St) :
    Dr02Neutral.step s ((PyDr02.whole (rawOf c)).headD []) = Dr02.step s c.call := by
  rw [whole_raw hp hu hr]
  exact step_some ((callOf_nat hb).trans (callIn_flat hp hu hr))
theorem flat_seg {c : One} (hr : rw_ c.p = 0 → c.row = []) : ∀ n ∈ c.flat, n ∈ c.seg := by
  intro n hn
  unfold One.flat at hn
  unfold One.seg
  rcases List.mem_cons.mp hn with rfl | hn
  · exact List.mem_cons_self
  rcases List.mem_append.mp hn with hn | hn
  · exact List.mem_cons_of_mem _ (List.mem_append_left _ hn)
  by_cases h : rw_ c.p = 1
  · rw [if_pos h]
    exact List.mem_cons_of_mem _ (List.mem_append_right _ (List.mem_cons_of_mem _ hn))
  · have h01 : rw_ c.p = 0 ∨ rw_ c.p = 1 ∨ 13 ≤ c.p := by
      generalize c.p = p
      match p with
      | 0 | 1 | 2 | 3 | 4 | 5 | 6 | 7 | 8 | 9 | 10 | 11 | 12 => simp [rw_]
      | n + 13 => omega
    rcases h01 with h0 | h0 | h0
    · rw [hr h0] at hn
      cases hn
    · exact absurd h0 h
    · have : rw_ c.p = 0 := by
        unfold rw_
        rw [List.getD_eq_getElem?_getD, List.getElem?_eq_none (by simpa using h0)]
        rfl
      rw [hr this] at hn
      cases hn
theorem seg_segs {cs : List One} {c : One} (h : c ∈ cs) : ∀ n ∈ c.seg, n ∈ segs cs := fun n hn => List.mem_flatMap.mpr ⟨c, h, hn⟩
theorem played_of : ∀ (cs : List One) (s : Dr02.St), (∀ c ∈ cs, c.p ≤ 12 ∧ c.u.length = wh c.p ∧ (rw_ c.p = 0 → c.row = [])) → (∀ c ∈ cs, ∀ n ∈ c.flat, n < 4294967296) →
    PyFlat.played (fun s c => Dr02Neutral.step s (c.headD [])) s ((cs.map rawOf).map PyDr02.whole) = playS s cs
  | [], _, _, _ => rfl
  | c :: cs, s, h, hb => by
    obtain ⟨a, b, d⟩ := h c List.mem_cons_self
    rw [List.map_cons, List.map_cons]
    show (Dr02Neutral.step s ((PyDr02.whole (rawOf c)).headD [])).2 :: PyFlat.played _ (Dr02Neutral.step s ((PyDr02.whole (rawOf c)).headD [])).1 _ = _
    rw [step_flat a b d (hb c List.mem_cons_self), played_of cs _ (fun x hx => h x (List.mem_cons_of_mem _ hx)) (fun x hx => hb x (List.mem_cons_of_mem _ hx))]
    rfl
theorem len_of {c : One} (hp : c.p ≤ 12) (hu : c.u.length = wh c.p) (hr : rw_ c.p = 0 → c.row = []) : PyInside.call PyDr02.bound (rawOf c) = true → c.row.length ≤ 50 := by
  refine One.cases (P := fun c => PyInside.call PyDr02.bound (rawOf c) = true → c.row.length ≤ 50) c hp hu hr ?_ ?_ ?_ ?_ ?_ ?_ ?_ ?_ ?_ ?_ ?_ ?_ ?_ <;>
    intros <;> simp_all [PyInside.call, rawOf, rw_, PyDr02.bound, PyInside.each, PyInside.lists] <;> omega
/-- **what is asked of a list of calls, and what is due** -/
theorem asked_of {l : List Int} (h0 : ∀ y ∈ l, 0 ≤ y ∧ y < 4294967296) (h : PyDr02.answers_asked l = true) :
    ∃ cs : List One, (∀ c ∈ cs, c.Ok) ∧ (∀ n ∈ segs cs, n < 4294967296) ∧ cs.length ≤ 30 ∧ nn l = segs cs ∧ PyDr02.answers l = PyFlat.told (playS Dr02.init cs) ∧ (PyDr02.answers l).length ≤ 10000000 := by
  unfold PyDr02.answers_asked at h
  cases hc : PyFlat.calls PyDr02.shape l.length l with
  | none =>
    rw [hc] at h
    cases h
  | some raw =>
    rw [hc] at h
    dsimp only at h
    obtain ⟨cs, a, b, d⟩ := calls_of l.length l raw (fun y hy => (h0 y hy).1) hc
    rw [Bool.and_eq_true, Bool.and_eq_true, Bool.and_eq_true, Bool.and_eq_true] at h
    obtain ⟨⟨⟨⟨-, hm⟩, hi⟩, -⟩, hsh⟩ := h
    have hb : ∀ n ∈ segs cs, n < 4294967296 := by
      intro n hn
      rw [← d] at hn
      obtain ⟨y, hy, rfl⟩ := List.mem_map.mp hn
      have := h0 y hy
      omega
    refine ⟨cs, fun c hx => ⟨(a c hx).1, (a c hx).2.1, (a c hx).2.2, ?_⟩, hb, ?_, d, ?_, of_decide_eq_true hsh⟩
    · refine len_of (a c hx).1 (a c hx).2.1 (a c hx).2.2 ?_
      unfold PyInside.calls at hi
      rw [List.all_eq_true] at hi
      exact hi _ (by rw [b]; exact List.mem_map.mpr ⟨c, hx, rfl⟩)
    · unfold PyFlat.atMost at hm
      rw [decide_eq_true_eq, b, List.length_map] at hm
      exact hm
    · unfold PyDr02.answers PyDr02.calls
      rw [hc]
      dsimp only
      rw [b]
      exact congrArg PyFlat.told (played_of cs _ a fun c hx n hn => hb n (seg_segs hx n (flat_seg (a c hx).2.2 n hn)))
end Sh
/-! shares in sixtieths, and fractions -/
namespace Sh
open Dr01 (Fun Set_ has with_ val things sets)
def q60 (p : Int) : Rat := mkRat p 60
theorem q60_add (a b : Int) : q60 (a + b) = q60 a + q60 b := by
  unfold q60
  rw [Rat.mkRat_add_mkRat a b (by decide) (by decide), Rat.mkRat_eq_iff (by decide) (by decide)]
  push_cast
  omega
theorem q60_zero : q60 0 = 0 := Rat.zero_mkRat 60
theorem q60_inj {a b : Int} : q60 a = q60 b ↔ a = b := by
  unfold q60
  rw [Rat.mkRat_eq_iff (by decide) (by decide)]
  omega
theorem q60_neg (a : Int) : q60 (-a) = -q60 a := by
  unfold q60
  rw [Rat.neg_mkRat]
theorem q60_sub (a b : Int) : q60 (a - b) = q60 a - q60 b := by
  rw [Int.sub_eq_add_neg, q60_add, q60_neg, Rat.sub_eq_add_neg]
theorem q60_int (a : Int) : q60 (60 * a) = (a : Rat) := by
  unfold q60
  have e : (a : Rat) = mkRat a 1 := (Rat.mkRat_self (a : Rat)).symm
  rw [e, Rat.mkRat_eq_iff (by decide) (by decide)]
  omega
theorem q60_le {a b : Int} : q60 a ≤ q60 b ↔ a ≤ b := by
  rw [Rat.le_iff_sub_nonneg, ← q60_sub]
  unfold q60
  rw [← Rat.divInt_ofNat, Rat.divInt_nonneg_iff_of_pos_right (by decide)]
  omega
theorem q60_lt {a b : Int} : q60 a < q60 b ↔ a < b := by
  rw [← Rat.not_le, q60_le]
  omega
theorem q60_min (a b : Int) : min (q60 a) (q60 b) = q60 (min a b) := by
  rw [Rat.min_def]
  by_cases h : a ≤ b
  · rw [if_pos (q60_le.mpr h), Int.min_eq_left h]
  · rw [if_neg (fun z => h (q60_le.mp z)), Int.min_eq_right (by omega)]
/-- a whole number divided by 1 to 5 -/
theorem q60_div {a : Int} {k : Nat} (h1 : 1 ≤ k) (h5 : k ≤ 5) : ((a : Int) : Rat) / ((k : Nat) : Rat) = q60 (60 * a / (k : Int)) := by
  rw [← Rat.mkRat_eq_div]
  unfold q60
  rw [Rat.mkRat_eq_iff (by omega) (by decide)]
  have : k = 1 ∨ k = 2 ∨ k = 3 ∨ k = 4 ∨ k = 5 := by omega
  rcases this with rfl | rfl | rfl | rfl | rfl <;> push_cast <;> omega
/-! a fraction's two numbers -/
def common (c : Int) : Nat := Nat.gcd 60 c.natAbs
theorem frac_q60 (c : Int) : Dr02.fraction (q60 c) = [c / (common c : Int), 60 / (common c : Int)] := by
  unfold Dr02.fraction q60 common
  rw [Rat.num_mkRat, Rat.den_mkRat]
  simp
/-- the divisors of 60 that divide c, greatest -/
def commons (c : Int) : List Nat := ((List.range 60).map fun i => i + 1).filter fun s => decide (60 % s = 0) && decide (c % (s : Int) = 0)
theorem mem_commons {c : Int} {s : Nat} : s ∈ commons c ↔ 1 ≤ s ∧ s ∣ 60 ∧ s ∣ c.natAbs := by
  unfold commons
  rw [List.mem_filter, List.mem_map, Bool.and_eq_true, decide_eq_true_eq, decide_eq_true_eq]
  have e : c % (s : Int) = 0 ↔ s ∣ c.natAbs := by
    rw [← Int.dvd_iff_emod_eq_zero, Int.ofNat_dvd_left]
  rw [e, ← Nat.dvd_iff_mod_eq_zero]
  constructor
  · rintro ⟨⟨i, hi, rfl⟩, h1, h2⟩
    exact ⟨by omega, h1, h2⟩
  · rintro ⟨h0, h1, h2⟩
    have := Nat.le_of_dvd (by decide) h1
    exact ⟨⟨s - 1, List.mem_range.mpr (by omega), by omega⟩, h1, h2⟩
theorem common_mem (c : Int) : common c ∈ commons c := by
  refine mem_commons.mpr ⟨?_, Nat.gcd_dvd_left _ _, Nat.gcd_dvd_right _ _⟩
  exact Nat.gcd_pos_of_pos_left _ (by decide)
theorem common_top {c : Int} {s : Nat} (h : s ∈ commons c) : s ≤ common c := by
  obtain ⟨_, h1, h2⟩ := mem_commons.mp h
  exact Nat.le_of_dvd (Nat.gcd_pos_of_pos_left _ (by decide)) (Nat.dvd_gcd h1 h2)
end Sh
/-! what a base has on a set; tight sets, around, room -/
namespace Sh
open Dr01 (Fun Set_ has with_ val things sets)
def togs (x : List Int) (s : Nat) : List Int := ((List.range x.length).filter fun k => has s (k + 1)).map fun k => x.getD k 0
def tog (x : List Int) (s : Nat) : Int := (togs x s).sum
def rp (p : List Int) : List Rat := p.map q60
theorem rp_getD (p : List Int) (k : Nat) : (rp p).getD k 0 = q60 (p.getD k 0) := by
  unfold rp
  rw [List.getD_eq_getElem?_getD, List.getD_eq_getElem?_getD, List.getElem?_map]
  cases p[k]? with
  | none => exact q60_zero.symm
  | some a => rfl
theorem sum_filter (c : Nat → Bool) (v : Nat → Int) : ∀ l : List Nat, (l.map fun k => if c k = true then q60 (v k) else 0).foldr (fun a n => a + n) 0 = q60 ((l.filter c).map v).sum
  | [] => q60_zero.symm
  | k :: l => by
    have ih := sum_filter c v l
    rw [List.map_cons, List.foldr_cons, ih]
    cases h : c k with
    | true => rw [if_pos rfl, List.filter_cons_of_pos h, List.map_cons, List.sum_cons, q60_add]
    | false => rw [if_neg (by decide), List.filter_cons_of_neg (by rw [h]; decide), Rat.zero_add]
theorem on_eq {f : Fun} {p : List Int} (hl : p.length = f.many) (s : Nat) : Dr02.on f (rp p) s = q60 (tog p s) := by
  unfold Dr02.on tog togs things
  rw [List.map_map, hl, ← sum_filter]
  refine congrArg (List.foldr (fun a n => a + n) 0) (List.map_congr_left fun k _ => ?_)
  show (if has s (k + 1) = true then (rp p).getD (k + 1 - 1) 0 else 0) = _
  rw [rp_getD, Nat.add_sub_cancel]
theorem toRat_rp (v : List Int) : Dr02.toRat v = rp (v.map fun z => 60 * z) := by
  unfold Dr02.toRat rp
  rw [List.map_map]
  refine List.map_congr_left fun z _ => ?_
  exact (q60_int z).symm
theorem tog_60 (v : List Int) (s : Nat) : tog (v.map fun z => 60 * z) s = 60 * tog v s := by
  unfold tog togs
  rw [List.length_map]
  generalize (List.range v.length).filter _ = l
  induction l with
  | nil => rfl
  | cons k l ih =>
    rw [List.map_cons, List.map_cons, List.sum_cons, List.sum_cons, ih, Int.mul_add]
    congr 1
    rw [List.getD_eq_getElem?_getD, List.getD_eq_getElem?_getD, List.getElem?_map]
    cases v[k]? <;> rfl
theorem on_int {f : Fun} {v : List Int} (hl : v.length = f.many) (s : Nat) : Dr02.on f (Dr02.toRat v) s = ((tog v s : Int) : Rat) := by
  rw [toRat_rp, on_eq (by rw [List.length_map, hl]), tog_60, q60_int]
def left (f : Fun) (p : List Int) (s : Nat) : Int := 60 * val f s - tog p s
theorem left_q {f : Fun} {p : List Int} (hl : p.length = f.many) (s : Nat) : ((val f s : Int) : Rat) - Dr02.on f (rp p) s = q60 (left f p s) := by
  unfold left
  rw [on_eq hl, q60_sub, q60_int]
def tights (f : Fun) (p : List Int) : List Nat := (List.range (2 ^ f.many)).filter fun s => decide (left f p s = 0)
theorem tight_eq {f : Fun} {p : List Int} (hl : p.length = f.many) : Dr02.tight f (rp p) = tights f p := by
  unfold Dr02.tight tights sets
  refine List.filter_congr fun s _ => ?_
  rw [on_eq hl, ← q60_int, Bool.eq_iff_iff, beq_iff_eq, decide_eq_true_eq, q60_inj]
  unfold left
  omega
def arounds (f : Fun) (p : List Int) (i : Nat) : Nat := ((tights f p).filter fun s => has s i).foldl (fun a b => a &&& b) (2 ^ f.many - 1)
theorem around_eq {f : Fun} {p : List Int} (hl : p.length = f.many) (i : Nat) : Dr02.around f (rp p) i = arounds f p i := by
  unfold Dr02.around arounds
  rw [tight_eq hl]
  rfl
/-! the least of some numbers -/
theorem fold_min_q (g : Nat → Int) : ∀ (l : List Nat) (a : Int), l.foldl (fun m s => min m (q60 (g s))) (q60 a) = q60 (l.foldl (fun m s => min m (g s)) a)
  | [], a => rfl
  | s :: l, a => by
    rw [List.foldl_cons, List.foldl_cons, q60_min]
    exact fold_min_q g l _
theorem fold_min_le (g : Nat → Int) : ∀ (l : List Nat) (a : Int), l.foldl (fun m s => min m (g s)) a ≤ a ∧ (∀ s ∈ l, l.foldl (fun m s => min m (g s)) a ≤ g s) ∧ (l.foldl (fun m s => min m (g s)) a = a ∨ ∃ s ∈ l, l.foldl (fun m s => min m (g s)) a = g s)
  | [], a => ⟨Int.le_refl _, fun s hs => by simp at hs, .inl rfl⟩
  | s :: l, a => by
    obtain ⟨h1, h2, h3⟩ := fold_min_le g l (min a (g s))
    rw [List.foldl_cons]
    refine ⟨by omega, fun t ht => ?_, ?_⟩
    · rcases List.mem_cons.mp ht with rfl | ht
      · omega
      · exact h2 t ht
    · rcases h3 with h3 | ⟨t, ht, h3⟩
      · by_cases h : a ≤ g s
        · exact .inl (by rw [h3]; omega)
        · exact .inr ⟨s, List.mem_cons_self .., by rw [h3]; omega⟩
      · exact .inr ⟨t, List.mem_cons_of_mem _ ht, h3⟩
theorem fold_min_is {g : Nat → Int} {l : List Nat} {s0 : Nat} (h0 : s0 ∈ l) {m : Int} (hm : m ∈ l.map g) (hle : ∀ y ∈ l.map g, m ≤ y) : l.foldl (fun m s => min m (g s)) (g s0) = m := by
  obtain ⟨h1, h2, h3⟩ := fold_min_le g l (g s0)
  obtain ⟨t, ht, rfl⟩ := List.mem_map.mp hm
  have a := h2 t ht
  rcases h3 with h3 | ⟨u, hu, h3⟩
  · have := hle (g s0) (List.mem_map.mpr ⟨s0, h0, rfl⟩)
    omega
  · have := hle (g u) (List.mem_map.mpr ⟨u, hu, rfl⟩)
    omega
def betw (f : Fun) (i j : Nat) : List Nat := (List.range (2 ^ f.many)).filter fun s => has s i && !has s j
theorem one_has1 : ∀ {i : Nat}, i < 6 → has (with_ 0 i) i = true := by decide +kernel
theorem one_has2 : ∀ {i : Nat}, i < 6 → ∀ {j : Nat}, j < 6 → (1 ≤ i ∧ 1 ≤ j ∧ i ≠ j) → has (with_ 0 i) j = false := by decide +kernel
theorem one_betw {f : Fun} (w : Wf f) {i j : Nat} (hi : 1 ≤ i) (hi2 : i ≤ f.many) (hj : 1 ≤ j) (hj2 : j ≤ f.many) (hne : i ≠ j) : with_ 0 i ∈ betw f i j := by
  have hh := w.hi
  have a := w.with (s := 0) (Nat.pos_of_ne_zero (by simp)) hi hi2
  have b := one_has1 (i := i) (by omega)
  have c := one_has2 (i := i) (by omega) (j := j) (by omega) ⟨hi, hj, hne⟩
  exact List.mem_filter.mpr ⟨List.mem_range.mpr a, by rw [b, c]; rfl⟩
theorem room_eq {f : Fun} (w : Wf f) {p : List Int} (hl : p.length = f.many) {i j : Nat} (hi : 1 ≤ i) (hi2 : i ≤ f.many) (hj : 1 ≤ j) (hj2 : j ≤ f.many) (hne : i ≠ j) {m : Int} (hm : m ∈ (betw f i j).map (left f p)) (hle : ∀ y ∈ (betw f i j).map (left f p), m ≤ y) :
    Dr02.room f (rp p) i j = q60 m := by
  unfold Dr02.room
  have e : ∀ (l : List Nat) (a : Rat), l.foldl (fun m s => min m (((val f s : Int) : Rat) - Dr02.on f (rp p) s)) a = l.foldl (fun m s => min m (q60 (left f p s))) a := fun l => by
    induction l with
    | nil => exact fun a => rfl
    | cons s l ih => intro a; rw [List.foldl_cons, List.foldl_cons, left_q hl]; exact ih _
  rw [e, left_q hl, fold_min_q]
  exact congrArg q60 (fold_min_is (one_betw w hi hi2 hj hj2 hne) hm hle)
/-! a move -/
def moved (p : List Int) (i j : Nat) (r : Int) : List Int := let p' := p.set (i - 1) (p.getD (i - 1) 0 + r)
  p'.set (j - 1) (p'.getD (j - 1) 0 - r)
theorem moved_len (p : List Int) (i j : Nat) (r : Int) : (moved p i j r).length = p.length := by
  unfold moved
  rw [List.length_set, List.length_set]
theorem moved_eq {f : Fun} {p : List Int} (hl : p.length = f.many) {i j : Nat} (hi : 1 ≤ i) (hi2 : i ≤ f.many) (hj : 1 ≤ j) (hj2 : j ≤ f.many) (hne : i ≠ j) (r : Int) :
    ((things f).map fun k => (rp p).getD (k - 1) 0 + (if k = i then q60 r else if k = j then -q60 r else 0)) = rp (moved p i j r) := by
  refine List.ext_getElem? fun k => ?_
  by_cases hk : k < f.many
  · rw [List.getElem?_map, things_get hk]
    unfold rp moved
    rw [List.getElem?_map, List.getElem?_set, List.getElem?_set]
    show some ((rp p).getD (k + 1 - 1) 0 + _) = _
    rw [rp_getD, Nat.add_sub_cancel]
    by_cases e1 : k + 1 = i
    · rw [if_pos e1, if_neg (by omega), if_pos (by omega), if_pos (by omega)]
      have : i - 1 = k := by omega
      rw [this]
      show _ = some (q60 _)
      rw [q60_add]
    · rw [if_neg e1]
      by_cases e2 : k + 1 = j
      · rw [if_pos e2, if_pos (by omega), if_pos (by rw [List.length_set]; omega)]
        have e3 : j - 1 = k := by omega
        have e4 : (p.set (i - 1) (p.getD (i - 1) 0 + r)).getD (j - 1) 0 = p.getD k 0 := by
          rw [List.getD_eq_getElem?_getD, List.getElem?_set, if_neg (by omega), e3, ← List.getD_eq_getElem?_getD]
        rw [e4]
        show _ = some (q60 _)
        rw [q60_sub, Rat.sub_eq_add_neg]
      · rw [if_neg e2, if_neg (by omega), if_neg (by omega), Rat.add_zero, List.getD_eq_getElem?_getD, List.getElem?_eq_getElem (by omega)]
        rfl
  · rw [List.getElem?_eq_none (by rw [List.length_map, things_len]; omega), List.getElem?_eq_none (by unfold rp; rw [List.length_map, moved_len]; omega)]
end Sh
/-! the fairest base -/
namespace Sh
open Dr01 (Fun Set_ has with_ val things sets)
def full (f : Fun) : Nat := 2 ^ f.many - 1
def sizeN (n s : Nat) : Nat := (((List.range n).map fun i => i + 1).filter (has s)).length
theorem size_N (f : Fun) (s : Nat) : Dr02.size f s = sizeN f.many s := rfl
theorem size_pos : ∀ {n : Nat}, n < 6 → ∀ {s : Nat}, s < 2 ^ n → s ≠ 0 → 1 ≤ sizeN n s := by decide +kernel
theorem size_le : ∀ {n : Nat}, n < 6 → ∀ {s : Nat}, s < 2 ^ n → sizeN n s ≤ 5 := by decide +kernel
theorem size_all : ∀ {n : Nat}, n < 6 → ∀ {s : Nat}, s < 2 ^ n → n ≤ sizeN n s → s = 2 ^ n - 1 := by decide +kernel
theorem size_more : ∀ {n : Nat}, n < 6 → ∀ {t : Nat}, t < 2 ^ n → ∀ {p : Nat}, p < 2 ^ n → (p &&& t = 0 ∧ p ≠ 0) → sizeN n t + 1 ≤ sizeN n (t ||| p) := by decide +kernel
theorem rest_free : ∀ {n : Nat}, n < 6 → ∀ {t : Nat}, t < 2 ^ n → t ≠ 2 ^ n - 1 → (2 ^ n - 1 - t) < 2 ^ n ∧ (2 ^ n - 1 - t) &&& t = 0 ∧ (2 ^ n - 1 - t) ≠ 0 := by decide +kernel
theorem has_sub : ∀ {q : Nat}, q < 32 → ∀ {t : Nat}, t < 32 → q &&& t = q → ∀ {i : Nat}, i < 6 → has q i = true → has t i = true := by decide +kernel
theorem has_dis : ∀ {p : Nat}, p < 32 → ∀ {t : Nat}, t < 32 → p &&& t = 0 → ∀ {i : Nat}, i < 6 → has t i = true → has p i = false := by decide +kernel
theorem sub_or : ∀ {q : Nat}, q < 32 → ∀ {t : Nat}, t < 32 → ∀ {p : Nat}, p < 32 → q &&& t = q → q &&& (t ||| p) = q := by
  intro q _ t _ p _ h
  rw [Nat.and_or_distrib_left, h]
  refine Nat.eq_of_testBit_eq fun i => ?_
  rw [Nat.testBit_or, Nat.testBit_and]
  cases q.testBit i <;> simp
theorem or_self (t p : Nat) : p &&& (t ||| p) = p := by
  refine Nat.eq_of_testBit_eq fun i => ?_
  rw [Nat.testBit_and, Nat.testBit_or]
  cases p.testBit i <;> simp
def mean (f : Fun) (t s : Nat) : Int := 60 * (val f (t ||| s) - val f t) / ((sizeN f.many s : Nat) : Int)
def cand (f : Fun) (t : Nat) : List Nat := (List.range (2 ^ f.many)).filter fun s => decide (s &&& t = 0) && decide (s ≠ 0)
theorem mem_cand {f : Fun} {t s : Nat} : s ∈ cand f t ↔ s < 2 ^ f.many ∧ s &&& t = 0 ∧ s ≠ 0 := by
  unfold cand
  rw [List.mem_filter, List.mem_range, Bool.and_eq_true, decide_eq_true_eq, decide_eq_true_eq]
def leastM (f : Fun) (t : Nat) : Int := (cand f t).foldl (fun m s => min m (mean f t s)) (mean f t (full f - t))
def poorI (f : Fun) (t : Nat) (m : Int) : Nat := ((cand f t).filter fun s => decide (mean f t s = m)).foldl (fun a b => a ||| b) 0
def poor (f : Fun) (t : Nat) : Nat × Int := (poorI f t (leastM f t), leastM f t)
theorem rest_cand {f : Fun} (w : Wf f) {t : Nat} (ht : t < 2 ^ f.many) (hne : t ≠ full f) : full f - t ∈ cand f t := by
  have h := rest_free (n := f.many) (by have := w.hi; omega) ht hne
  exact mem_cand.mpr h
theorem leastM_is {f : Fun} (w : Wf f) {t : Nat} (ht : t < 2 ^ f.many) (hne : t ≠ full f) {m : Int} (hm : m ∈ (cand f t).map (mean f t)) (hle : ∀ y ∈ (cand f t).map (mean f t), m ≤ y) : leastM f t = m :=
  fold_min_is (rest_cand w ht hne) hm hle
theorem leastM_mem {f : Fun} (w : Wf f) {t : Nat} (ht : t < 2 ^ f.many) (hne : t ≠ full f) : ∃ s ∈ cand f t, mean f t s = leastM f t := by
  obtain ⟨_, _, h3⟩ := fold_min_le (mean f t) (cand f t) (mean f t (full f - t))
  rcases h3 with h3 | ⟨s, hs, h3⟩
  · exact ⟨_, rest_cand w ht hne, h3.symm⟩
  · exact ⟨s, hs, h3.symm⟩
theorem ratio_q {f : Fun} (w : Wf f) {t s : Nat} (hs : s ∈ cand f t) : ((val f (Dr01.join s t) - val f t : Int) : Rat) / ((Dr02.size f s : Nat) : Rat) = q60 (mean f t s) := by
  obtain ⟨h1, h2, h3⟩ := mem_cand.mp hs
  have hh := w.hi
  rw [size_N, q60_div (size_pos (by omega) h1 h3) (size_le (by omega) h1)]
  unfold mean
  have : Dr01.join s t = t ||| s := Nat.or_comm s t
  rw [this]
theorem foldl_congr {α β : Type} {g h : β → α → β} : ∀ {l : List α} {a : β}, (∀ b, ∀ x ∈ l, g b x = h b x) → l.foldl g a = l.foldl h a
  | [], a, _ => rfl
  | x :: l, a, e => by
    rw [List.foldl_cons, List.foldl_cons, e a x (List.mem_cons_self ..)]
    exact foldl_congr fun b y hy => e b y (List.mem_cons_of_mem _ hy)
theorem poorest_eq {f : Fun} (w : Wf f) {t : Nat} (ht : t < 2 ^ f.many) (hne : t ≠ full f) : Dr02.poorest f t = ((poor f t).1, q60 (poor f t).2) := by
  unfold Dr02.poorest
  have el : ((sets f).filter fun s => Dr01.meet s t == 0 && s != 0) = cand f t := by
    unfold cand sets
    refine List.filter_congr fun s _ => ?_
    show ((s &&& t) == 0 && s != 0) = _
    rw [Bool.eq_iff_iff]
    simp
  simp only [el]
  have em : (cand f t).foldl (fun m s => min m (((val f (Dr01.join s t) - val f t : Int) : Rat) / ((Dr02.size f s : Nat) : Rat))) (((val f (Dr01.join (Dr02.all f - t) t) - val f t : Int) : Rat) / ((Dr02.size f (Dr02.all f - t) : Nat) : Rat)) = q60 (leastM f t) := by
    have e0 : Dr02.all f - t = full f - t := rfl
    rw [e0, ratio_q w (rest_cand w ht hne)]
    unfold leastM
    rw [← fold_min_q]
    exact foldl_congr fun b x hx => by rw [ratio_q w hx]
  rw [em]
  unfold poor poorI
  have ef : ((cand f t).filter fun s => ((val f (Dr01.join s t) - val f t : Int) : Rat) / ((Dr02.size f s : Nat) : Rat) == q60 (leastM f t)) = (cand f t).filter fun s => decide (mean f t s = leastM f t) := by
    refine List.filter_congr fun s hs => ?_
    rw [ratio_q w hs, Bool.eq_iff_iff, beq_iff_eq, decide_eq_true_eq, q60_inj]
  rw [ef]
  rfl
/-! sets that are joined -/
theorem fold_or_lt {n : Nat} : ∀ (l : List Nat) (a : Nat), a < 2 ^ n → (∀ s ∈ l, s < 2 ^ n) → l.foldl (fun a b => a ||| b) a < 2 ^ n
  | [], a, h, _ => h
  | s :: l, a, h, hl => fold_or_lt l (a ||| s) (Nat.or_lt_two_pow h (hl s (List.mem_cons_self ..))) fun u hu => hl u (List.mem_cons_of_mem _ hu)
theorem fold_or_dis {t : Nat} : ∀ (l : List Nat) (a : Nat), a &&& t = 0 → (∀ s ∈ l, s &&& t = 0) → l.foldl (fun a b => a ||| b) a &&& t = 0
  | [], a, h, _ => h
  | s :: l, a, h, hl => fold_or_dis l (a ||| s) (by rw [Nat.and_or_distrib_right, h, hl s (List.mem_cons_self ..)]; rfl) fun u hu => hl u (List.mem_cons_of_mem _ hu)
theorem fold_or_ge : ∀ (l : List Nat) (a : Nat), a ≤ l.foldl (fun a b => a ||| b) a ∧ ∀ s ∈ l, s ≤ l.foldl (fun a b => a ||| b) a
  | [], a => ⟨Nat.le_refl _, fun s hs => by simp at hs⟩
  | s :: l, a => by
    obtain ⟨h1, h2⟩ := fold_or_ge l (a ||| s)
    rw [List.foldl_cons]
    refine ⟨Nat.le_trans Nat.left_le_or h1, fun u hu => ?_⟩
    rcases List.mem_cons.mp hu with rfl | hu
    · exact Nat.le_trans Nat.right_le_or h1
    · exact h2 u hu
theorem poor_lt {f : Fun} (t : Nat) (m : Int) : poorI f t m < 2 ^ f.many :=
  fold_or_lt _ 0 (Nat.pos_of_ne_zero (by simp)) fun s hs => (mem_cand.mp (List.mem_filter.mp hs).1).1
theorem poor_dis {f : Fun} (t : Nat) (m : Int) : poorI f t m &&& t = 0 :=
  fold_or_dis _ 0 (by simp) fun s hs => (mem_cand.mp (List.mem_filter.mp hs).1).2.1
theorem poor_ne {f : Fun} (w : Wf f) {t : Nat} (ht : t < 2 ^ f.many) (hne : t ≠ full f) : (poor f t).1 ≠ 0 := by
  obtain ⟨s, hs, e⟩ := leastM_mem w ht hne
  have h := (fold_or_ge ((cand f t).filter fun s => decide (mean f t s = leastM f t)) 0).2 s (List.mem_filter.mpr ⟨hs, decide_eq_true e⟩)
  have h0 := (mem_cand.mp hs).2.2
  show ((cand f t).filter fun s => decide (mean f t s = leastM f t)).foldl (fun a b => a ||| b) 0 ≠ 0
  omega
def fairI (f : Fun) : Nat → Nat → List (Nat × Int)
  | 0, _ => []
  | n + 1, t => if t = full f then [] else poor f t :: fairI f n (t ||| (poor f t).1)
theorem fairFrom_eq {f : Fun} (w : Wf f) : ∀ (n t : Nat), t < 2 ^ f.many → Dr02.fairFrom f n t = (fairI f n t).map fun p => (p.1, q60 p.2)
  | 0, t, _ => rfl
  | n + 1, t, ht => by
    unfold Dr02.fairFrom fairI
    by_cases h : t = full f
    · rw [if_pos h, if_pos (show t = Dr02.all f from h)]
      rfl
    · rw [if_neg h, if_neg (show ¬ t = Dr02.all f from h), poorest_eq w ht h]
      show (_, _) :: Dr02.fairFrom f n (t ||| (poor f t).1) = _
      rw [fairFrom_eq w n (t ||| (poor f t).1) (Nat.or_lt_two_pow ht (poor_lt t _))]
      rfl
def partsOf (f : Fun) (l : List (Nat × Int)) : List Int := (things f).map fun i => ((l.find? fun p => has p.1 i).map fun p => p.2).getD 0
theorem partsOf_len (f : Fun) (l : List (Nat × Int)) : (partsOf f l).length = f.many := by
  unfold partsOf
  rw [List.length_map, things_len]
theorem partsOf_get {f : Fun} {l : List (Nat × Int)} {k : Nat} (h : k < f.many) : (partsOf f l)[k]? = some (((l.find? fun p => has p.1 (k + 1)).map fun p => p.2).getD 0) := by
  unfold partsOf
  rw [List.getElem?_map, things_get h]
  rfl
def fairP (f : Fun) : List Int := partsOf f (fairI f f.many 0)
theorem fairest_eq {f : Fun} (w : Wf f) : Dr02.fairest f = rp (fairP f) := by
  unfold Dr02.fairest fairP partsOf rp
  rw [fairFrom_eq w _ 0 (Nat.pos_of_ne_zero (by simp)), List.map_map]
  refine List.map_congr_left fun i _ => ?_
  rw [List.find?_map]
  show ((Option.map (fun p : Nat × Int => (p.1, q60 p.2)) (List.find? (fun p => has p.1 i) (fairI f f.many 0))).map fun p => p.2).getD 0 = q60 (((List.find? (fun p => has p.1 i) (fairI f f.many 0)).map fun p => p.2).getD 0)
  cases List.find? (fun p => has p.1 i) (fairI f f.many 0) with
  | none => exact q60_zero.symm
  | some p => rfl
structure FairInv (f : Fun) (t n : Nat) (l : List (Nat × Int)) : Prop where
  eq : fairI f f.many 0 = l ++ fairI f n t
  lt : t < 2 ^ f.many
  sz : f.many ≤ sizeN f.many t + n
  sub : ∀ p ∈ l, p.1 < 2 ^ f.many ∧ p.1 &&& t = p.1
theorem FairInv.start (f : Fun) : FairInv f 0 f.many [] := ⟨rfl, Nat.pos_of_ne_zero (by simp), Nat.le_add_left _ _, fun p hp => by simp at hp⟩
theorem FairInv.done {f : Fun} {n : Nat} {l : List (Nat × Int)} (h : FairInv f (full f) n l) : partsOf f l = fairP f := by
  unfold fairP
  rw [h.eq]
  have e : fairI f n (full f) = [] := by
    cases n with
    | zero => rfl
    | succ n => unfold fairI; rw [if_pos rfl]
  rw [e, List.append_nil]
theorem FairInv.step {f : Fun} (w : Wf f) {t n : Nat} {l : List (Nat × Int)} (h : FairInv f t n l) (hne : t ≠ full f) :
    ∃ k, n = k + 1 ∧ FairInv f (t ||| (poor f t).1) k (l ++ [poor f t]) ∧ ∀ (j : Nat), j < f.many → (partsOf f (l ++ [poor f t]))[j]? = if has (poor f t).1 (j + 1) = true then some (poor f t).2 else (partsOf f l)[j]? := by
  have hh := w.hi
  have pl : (poor f t).1 < 2 ^ f.many := poor_lt t _
  have pd : (poor f t).1 &&& t = 0 := poor_dis t _
  have pn := poor_ne w h.lt hne
  have l32 := w.lt h.lt
  have p32 := w.lt pl
  cases n with
  | zero => exact (hne (size_all (n := f.many) (by omega) h.lt h.sz)).elim
  | succ k =>
    refine ⟨k, rfl, ⟨?_, Nat.or_lt_two_pow h.lt pl, ?_, fun p hp => ?_⟩, fun j hj => ?_⟩
    · rw [h.eq]
      have e : fairI f (k + 1) t = poor f t :: fairI f k (t ||| (poor f t).1) := by
        show (if t = full f then [] else _) = _
        rw [if_neg hne]
      rw [e, List.append_assoc]
      rfl
    · have := size_more (n := f.many) (by omega) h.lt pl ⟨pd, pn⟩
      have := h.sz
      omega
    · rcases List.mem_append.mp hp with hp | hp
      · obtain ⟨a, b⟩ := h.sub p hp
        exact ⟨a, sub_or (w.lt a) l32 p32 b⟩
      · rw [List.mem_singleton.mp hp]
        exact ⟨pl, or_self _ _⟩
    · rw [partsOf_get hj, partsOf_get hj, List.find?_append]
      cases hp : has (poor f t).1 (j + 1) with
      | true =>
        have hn : l.find? (fun p => has p.1 (j + 1)) = none := by
          rw [List.find?_eq_none]
          intro q hq hc
          obtain ⟨a, b⟩ := h.sub q hq
          have c := has_sub (w.lt a) l32 b (i := j + 1) (by omega) hc
          have d := has_dis p32 l32 pd (i := j + 1) (by omega) c
          rw [hp] at d
          cases d
        rw [hn]
        simp [hp]
      | false =>
        cases hq : l.find? (fun p => has p.1 (j + 1)) with
        | some q => simp
        | none => simp [hp]
end Sh
/-! sizes by bits; worth; the first set that has too much; how long a function is -/
namespace Sh
open Dr01 (Fun Set_ has with_ val things sets)
def bitsN (s : Nat) : Nat := if s = 0 then 0 else s.log2 + 1
theorem bits_le : ∀ {s : Nat}, s < 32 → bitsN s ≤ 5 := by decide +kernel
theorem size_bits : ∀ {n : Nat}, n < 6 → ∀ {s : Nat}, s < 2 ^ n → sizeN (bitsN s) s = sizeN n s := by decide +kernel
def wsum (xs ws : List Int) : Int := ((List.range xs.length).map fun k => xs.getD k 0 * ws.getD k 0).sum
theorem worth_eq {f : Fun} {w x : List Int} (hx : x.length = f.many) : Dr02.worth f w x = wsum x w := by
  unfold Dr02.worth wsum things
  rw [hx, List.map_map, List.sum]
  refine congrArg (List.foldr (fun a n => a + n) 0) (List.map_congr_left fun k _ => ?_)
  show w.getD (k + 1 - 1) 0 * x.getD (k + 1 - 1) 0 = _
  rw [Nat.add_sub_cancel, Int.mul_comm]
theorem full_has : ∀ {n : Nat}, n < 6 → ∀ {k : Nat}, k < n → has (2 ^ n - 1) (k + 1) = true := by decide +kernel
theorem zero_has : ∀ {k : Nat}, k < 6 → has 0 (k + 1) = false := by decide +kernel
theorem range_getD (v : List Int) : (List.range v.length).map (fun k => v.getD k 0) = v := by
  refine List.ext_getElem? fun i => ?_
  by_cases h : i < v.length
  · rw [List.getElem?_map, List.getElem?_range h, List.getElem?_eq_getElem h]
    show some (v.getD i 0) = _
    rw [List.getD_eq_getElem?_getD, List.getElem?_eq_getElem h]
    rfl
  · rw [List.getElem?_eq_none (by rw [List.length_map, List.length_range]; omega), List.getElem?_eq_none (by omega)]
theorem tog_full {f : Fun} (w : Wf f) {v : List Int} (hl : v.length = f.many) : tog v (full f) = v.sum := by
  unfold tog togs full
  have hh := w.hi
  rw [List.filter_eq_self.mpr fun k hk => full_has (n := f.many) (by omega) (by have := List.mem_range.mp hk; omega), range_getD]
theorem tog_zero {f : Fun} (w : Wf f) {v : List Int} (hl : v.length = f.many) : tog v 0 = 0 := by
  unfold tog togs
  have hh := w.hi
  rw [List.filter_eq_nil_iff.mpr fun k hk => by rw [zero_has (by have := List.mem_range.mp hk; omega)]; decide]
  rfl
theorem over_eq {f : Fun} {v : List Int} (hl : v.length = f.many) : Dr02.over f (Dr02.toRat v) = (List.range (2 ^ f.many)).find? fun s => decide (val f s < tog v s) := by
  unfold Dr02.over sets
  congr 1
  funext s
  rw [on_int hl, Bool.eq_iff_iff, decide_eq_true_eq, decide_eq_true_eq, Rat.intCast_lt_intCast]
/-- the answer to `is` -/
def isAns (f : Fun) (v : List Int) (c : Nat) : List Int := if c ≠ 0 then [0, 1, (c : Int)] else if v.sum < val f (full f) then [0, 0] else [1]
/-- c is the lowest set that has too much, or 0 -/
def Lowest (f : Fun) (v : List Int) (c : Nat) : Prop := (c = 0 ∧ ∀ s, s < 2 ^ f.many → ¬ val f s < tog v s) ∨ (c ≠ 0 ∧ c < 2 ^ f.many ∧ val f c < tog v c ∧ ∀ s, s < c → ¬ val f s < tog v s)
theorem is_eq {f : Fun} (w : Wf f) {v : List Int} (hl : v.length = f.many) {c : Nat} (h : Lowest f v c) :
    (match Dr02.over f (Dr02.toRat v) with | some s => [0, 1, (s : Int)] | none => if Dr02.isBase f (Dr02.toRat v) = true then [1] else [0, 0]) = isAns f v c := by
  have hpos : 0 < 2 ^ f.many := Nat.pos_of_ne_zero (by simp)
  rcases h with ⟨rfl, h⟩ | ⟨h0, h1, h2, h3⟩
  · have ho : Dr02.over f (Dr02.toRat v) = none := by
      rw [over_eq hl, List.find?_eq_none]
      intro s hs
      rw [decide_eq_true_eq]
      exact h s (List.mem_range.mp hs)
    have hf := h (full f) (Nat.sub_lt hpos (by decide))
    rw [tog_full w hl] at hf
    unfold isAns
    rw [ho, if_neg (show ¬ (0 : Nat) ≠ 0 from fun z => z rfl)]
    show (if Dr02.isBase f (Dr02.toRat v) = true then [1] else [0, 0]) = _
    have hb : Dr02.isBase f (Dr02.toRat v) = decide (v.sum = val f (full f)) := by
      unfold Dr02.isBase
      rw [ho, on_int hl]
      have e : Dr02.all f = full f := rfl
      rw [e, tog_full w hl]
      have hlen : (Dr02.toRat v).length = f.many := by unfold Dr02.toRat; rw [List.length_map, hl]
      rw [hlen, Bool.eq_iff_iff]
      simp
    rw [hb]
    by_cases e : v.sum = val f (full f)
    · rw [if_pos (decide_eq_true e), if_neg (by omega)]
    · rw [if_neg (by simpa using e), if_pos (by omega)]
  · have ho : Dr02.over f (Dr02.toRat v) = some c := by
      rw [over_eq hl, List.find?_range_eq_some]
      refine ⟨decide_eq_true h2, List.mem_range.mpr h1, fun j hj => ?_⟩
      simp only [Bool.not_eq_true', decide_eq_false_iff_not]
      exact h3 j hj
    rw [ho]
    unfold isAns
    rw [if_pos h0]
theorem log2_case (m : Nat) : (∃ n, 1 ≤ n ∧ n ≤ 5 ∧ m = 2 ^ n ∧ Dr01.log2 m = some n) ∨ (m ≠ 2 ∧ m ≠ 4 ∧ m ≠ 8 ∧ m ≠ 16 ∧ m ≠ 32 ∧ (Dr01.log2 m = none ∨ Dr01.log2 m = some 0)) := by
  by_cases h2 : m = 2
  · exact .inl ⟨1, by decide, by decide, h2, by rw [h2]; decide⟩
  by_cases h4 : m = 4
  · exact .inl ⟨2, by decide, by decide, h4, by rw [h4]; decide⟩
  by_cases h8 : m = 8
  · exact .inl ⟨3, by decide, by decide, h8, by rw [h8]; decide⟩
  by_cases h16 : m = 16
  · exact .inl ⟨4, by decide, by decide, h16, by rw [h16]; decide⟩
  by_cases h32 : m = 32
  · exact .inl ⟨5, by decide, by decide, h32, by rw [h32]; decide⟩
  refine .inr ⟨h2, h4, h8, h16, h32, ?_⟩
  by_cases h1 : m = 1
  · exact .inr (by rw [h1]; decide)
  · refine .inl ?_
    unfold Dr01.log2
    rw [List.find?_eq_none]
    intro n hn
    have hn' := List.mem_range.mp hn
    have : n = 0 ∨ n = 1 ∨ n = 2 ∨ n = 3 ∨ n = 4 ∨ n = 5 := by omega
    rcases this with rfl | rfl | rfl | rfl | rfl | rfl <;> simp <;> omega
theorem fits_zero {f : Fun} (h : Dr02.fits f = true) : val f 0 = 0 := by
  unfold Dr02.fits at h
  rw [Bool.and_eq_true] at h
  exact beq_iff_eq.mp h.1
/-- they are all things, each once -/
theorem order_case (f : Fun) (l : List Nat) : (Dr02.orders f.many (things f)).contains l = true ↔ l.Perm (things f) := by
  rw [List.contains_iff_mem]
  exact orders_perm f.many (things f) (things_nodup f) (things_len f) l
/-! what a base is told as -/
theorem told_frac (p : List Int) : (rp p).flatMap Dr02.fraction = p.flatMap fun c => [c / (common c : Int), 60 / (common c : Int)] := by
  unfold rp
  rw [List.flatMap_map]
  congr 1
  funext c
  exact frac_q60 c
end Sh
/-! calls one behind another -/
namespace Sh
theorem one_form (c : One) (h : c.Ok) : (∃ r, c = ⟨0, [], r⟩) ∨ (∃ a r, c = ⟨1, [a], r⟩) ∨ (∃ r, c = ⟨2, [], r⟩) ∨ (∃ r, c = ⟨3, [], r⟩) ∨ c = ⟨4, [], []⟩ ∨ (∃ r, c = ⟨5, [], r⟩) ∨ c = ⟨6, [], []⟩ ∨ c = ⟨7, [], []⟩ ∨ (∃ a, c = ⟨8, [a], []⟩) ∨ (∃ a b, c = ⟨9, [a, b], []⟩) ∨ (∃ a b, c = ⟨10, [a, b], []⟩) ∨ c = ⟨11, [], []⟩ ∨ ∃ r, c = ⟨12, [], r⟩ := by
  refine One.cases (P := fun c => (∃ r, c = ⟨0, [], r⟩) ∨ (∃ a r, c = ⟨1, [a], r⟩) ∨ (∃ r, c = ⟨2, [], r⟩) ∨ (∃ r, c = ⟨3, [], r⟩) ∨ c = ⟨4, [], []⟩ ∨ (∃ r, c = ⟨5, [], r⟩) ∨ c = ⟨6, [], []⟩ ∨ c = ⟨7, [], []⟩ ∨ (∃ a, c = ⟨8, [a], []⟩) ∨ (∃ a b, c = ⟨9, [a, b], []⟩) ∨ (∃ a b, c = ⟨10, [a, b], []⟩) ∨ c = ⟨11, [], []⟩ ∨ ∃ r, c = ⟨12, [], r⟩) c h.p h.u h.row ?_ ?_ ?_ ?_ ?_ ?_ ?_ ?_ ?_ ?_ ?_ ?_ ?_
  · exact fun r => .inl ⟨r, rfl⟩
  · exact fun a r => .inr (.inl ⟨a, r, rfl⟩)
  · exact fun r => .inr (.inr (.inl ⟨r, rfl⟩))
  · exact fun r => .inr (.inr (.inr (.inl ⟨r, rfl⟩)))
  · exact .inr (.inr (.inr (.inr (.inl rfl))))
  · exact fun r => .inr (.inr (.inr (.inr (.inr (.inl ⟨r, rfl⟩)))))
  · exact .inr (.inr (.inr (.inr (.inr (.inr (.inl rfl))))))
  · exact .inr (.inr (.inr (.inr (.inr (.inr (.inr (.inl rfl)))))))
  · exact fun a => .inr (.inr (.inr (.inr (.inr (.inr (.inr (.inr (.inl ⟨a, rfl⟩))))))))
  · exact fun a b => .inr (.inr (.inr (.inr (.inr (.inr (.inr (.inr (.inr (.inl ⟨a, b, rfl⟩)))))))))
  · exact fun a b => .inr (.inr (.inr (.inr (.inr (.inr (.inr (.inr (.inr (.inr (.inl ⟨a, b, rfl⟩))))))))))
  · exact .inr (.inr (.inr (.inr (.inr (.inr (.inr (.inr (.inr (.inr (.inr (.inl rfl)))))))))))
  · exact fun r => .inr (.inr (.inr (.inr (.inr (.inr (.inr (.inr (.inr (.inr (.inr (.inr ⟨r, rfl⟩)))))))))))
/-- the state behind some calls -/
def stAfter (s : Dr02.St) (cs : List One) : Dr02.St := cs.foldl (fun s c => (Dr02.step s c.call).1) s
theorem playS_snoc : ∀ (cs : List One) (s : Dr02.St) (c : One), playS s (cs ++ [c]) = playS s cs ++ [(Dr02.step (stAfter s cs) c.call).2]
  | [], s, c => rfl
  | a :: cs, s, c => by
    show (Dr02.step s a.call).2 :: playS (Dr02.step s a.call).1 (cs ++ [c]) = _
    rw [playS_snoc cs]
    rfl
theorem stAfter_snoc (cs : List One) (s : Dr02.St) (c : One) : stAfter s (cs ++ [c]) = (Dr02.step (stAfter s cs) c.call).1 := by
  unfold stAfter
  rw [List.foldl_append]
  rfl
theorem told_snoc (l : List (List Int)) (a : List Int) : PyFlat.told (l ++ [a]) = PyFlat.told l ++ ((a.length : Int) :: a) := by
  unfold PyFlat.told
  rw [List.flatMap_append]
  simp
theorem playS_len_le (s : Dr02.St) (cs ds : List One) : (PyFlat.told (playS s cs)).length ≤ (PyFlat.told (playS s (cs ++ ds))).length := by
  induction ds generalizing cs with
  | nil => rw [List.append_nil]; exact Nat.le_refl _
  | cons d ds ih =>
    have h := ih (cs ++ [d])
    rw [List.append_assoc] at h
    refine Nat.le_trans ?_ h
    rw [playS_snoc, told_snoc, List.length_append]
    exact Nat.le_add_right _ _
theorem segs_append (a b : List One) : segs (a ++ b) = segs a ++ segs b := by
  unfold segs
  rw [List.flatMap_append]
theorem segs_cons (c : One) (b : List One) : segs (c :: b) = c.seg ++ segs b := by
  unfold segs
  rw [List.flatMap_cons]
theorem rw_case (c : One) (h : c.Ok) : rw_ c.p = 0 ∨ rw_ c.p = 1 := by
  have := h.p
  have : ∀ p, p < 13 → rw_ p = 0 ∨ rw_ p = 1 := by decide
  exact this _ (by omega)
end Sh
namespace Sh
open PySem PySem.Spec PyProof.Rows L2 Evl
/-- a def of the text, as it stands behind the top -/
def Has (K : PySem.W.Frag) (mg : Str → Option Value) (x : Str) (st : Stmt) (ps : List Str) : Prop :=
  ∃ f fd, Fun K x x st f fd ∧ Binds K fd ps [] ∧ mg x = some (.ref f)
/-- a def that keeps its promise -/
def Ok (P : Program) (w : World) (K : PySem.W.Frag) (mg : Str → Option Value) (base : Heap) (x : Str) (ps : List Str) (k : Nat) (sp : Sp) : Prop :=
  ∃ f fd, FnOk P w K mg base CX0 k f fd ps sp ∧ mg x = some (.ref f) ∧ PySem.W.keepIn K (.ref f) = true ∧ Binds K fd ps []
section
variable {P : Program} {w : World} {K : PySem.W.Frag} {mg : Str → Option Value} {base : Heap}
theorem ok_of {x : Str} {st : Stmt} {N ps : List Str} {k : Nat} {sp : Sp} (h : Has K mg x st ps) (S : FnScope N ps (defScope st)) (len : ∀ vs H Q E, sp vs H Q E → vs.length = ps.length)
    (hbody : ∀ (f : Addr) (cdv : Value) (A : Around) (outer : List Env) (s : Shared) (H : Hp) (vs : List V) (Q : VK) (E : XK), Room k (A.deeper (envOfC x (defScope st) s.heap.objs.size f cdv)) → sp vs H Q E →
      ∃ t, PSs (cxOf CX0 P w K mg base N x (defScope st) f cdv A outer s H E).nox (defBody st) t ∧ t { nx := fun _ H' => Q .non H', rt := Q } (start N vs) H) : Ok P w K mg base x ps (k + 1) sp := by
  obtain ⟨f, fd, F, b, g⟩ := h
  exact ⟨f, fd, F.ok S len (fun cdv A outer s H vs Q E hr q => hbody f cdv A outer s H vs Q E hr q), g, F.kp, b⟩
end
/-- f(e, ..) -/
theorem pe_ok {X : Cx} {x : Str} {p pos : Pos} {e : Expr} {es : List Expr} {ps : List Str} {k : Nat} {sp : Sp} {t : TA} (h : Ok X.prog X.w X.K X.mg X.base x ps k sp) (hr : Room k X.A) (hg : Gl X x) (ha : PA X (e :: es) t) (hdb : (x == ("__debug__" : Str)) = false := by decide)
    (hst : starEach (e :: es) X.env = (false, eval e X.env) :: starEach es X.env := by rfl) (hpl : (backTo pos (starEach es X.env)).any (·.1) = false := by rfl) :
    PE X (.Call (.Name x p) (e :: es) [] pos) (tCall sp [] E0 t) := by
  obtain ⟨f, fd, F, g, kp, b⟩ := h
  exact pe_call F hr hg g kp b .nil pass0 ha hdb hst hpl
/-! ### methods of an own class -/
def HasM (K : PySem.W.Frag) (C : Addr) (m qual : Str) (st : Stmt) (ps : List Str) : Prop :=
  ∃ f fd, Fun K m qual st f fd ∧ Binds K fd ps [] ∧ Meth K C m f
def OkM (P : Program) (w : World) (K : PySem.W.Frag) (mg : Str → Option Value) (base : Heap) (C : Addr) (m : Str) (ps : List Str) (k : Nat) (sp : Sp) : Prop :=
  ∃ f fd, FnOk P w K mg base CX0 k f fd ps sp ∧ Meth K C m f ∧ Binds K fd ps []
section
variable {P : Program} {w : World} {K : PySem.W.Frag} {mg : Str → Option Value} {base : Heap} {C : Addr}
theorem okm_of {m qual : Str} {st : Stmt} {N ps : List Str} {k : Nat} {sp : Sp} (h : HasM K C m qual st ps) (S : FnScope N ps (defScope st)) (len : ∀ vs H Q E, sp vs H Q E → vs.length = ps.length)
    (hbody : ∀ (f : Addr) (cdv : Value) (A : Around) (outer : List Env) (s : Shared) (H : Hp) (vs : List V) (Q : VK) (E : XK), Room k (A.deeper (envOfC qual (defScope st) s.heap.objs.size f cdv)) → sp vs H Q E →
      ∃ t, PSs (cxOf CX0 P w K mg base N qual (defScope st) f cdv A outer s H E).nox (defBody st) t ∧ t { nx := fun _ H' => Q .non H', rt := Q } (start N vs) H) : OkM P w K mg base C m ps (k + 1) sp := by
  obtain ⟨f, fd, F, b, g⟩ := h
  exact ⟨f, fd, F.ok S len (fun cdv A outer s H vs Q E hr q => hbody f cdv A outer s H vs Q E hr q), g, b⟩
end
theorem pe_okm {X : Cx} {C : Addr} {m : Str} {apos pos : Pos} {o e : Expr} {es : List Expr} {ps : List Str} {k : Nat} {sp : Sp} {ta : TE} {t : TA} {pl : Sem Bool} (he : PE X o ta) (c : Cls X.K C) (h : OkM X.prog X.w X.K X.mg X.base C m ps k sp) (hr : Room k X.A) (ha : PA X (e :: es) t)
    (hst : starEach (e :: es) X.env = (false, eval e X.env) :: starEach es X.env := by rfl) (hpl : (backTo pos (starEach es X.env)).any (·.1) = false := by rfl)
    (ht : eval (.Call (.Attribute o m apos) (e :: es) [] pos) X.env = (do
      let ov ← eval o X.env
      standAt apos.atName
      let (f, first) ← holding [ov] (getMethod ov m pl)
      callWith pos f first (backTo pos (starEach (e :: es) X.env)) (backToKw pos (keywordEach [] X.env))) := by rfl) :
    PE X (.Call (.Attribute o m apos) (e :: es) [] pos) (tMeth C m sp [] E0 ta t) := by
  obtain ⟨f, fd, F, hm, b⟩ := h
  exact pe_meth (pl := pl) he c hm F hr b .nil pass0 ha hst hpl ht
theorem pe_okm0 {X : Cx} {C : Addr} {m : Str} {apos pos : Pos} {o : Expr} {ps : List Str} {k : Nat} {sp : Sp} {ta : TE} {pl : Sem Bool} (he : PE X o ta) (c : Cls X.K C) (h : OkM X.prog X.w X.K X.mg X.base C m ps k sp) (hr : Room k X.A)
    (ht : eval (.Call (.Attribute o m apos) [] [] pos) X.env = (do
      let ov ← eval o X.env
      standAt apos.atName
      let (f, first) ← holding [ov] (getMethod ov m pl)
      callWith pos f first (backTo pos (starEach [] X.env)) (backToKw pos (keywordEach [] X.env))) := by rfl) :
    PE X (.Call (.Attribute o m apos) [] [] pos) (tMeth C m sp [] E0 ta tNil) := by
  obtain ⟨f, fd, F, hm, b⟩ := h
  exact pe_meth0 (pl := pl) he c hm F hr b .nil pass0 ht
/-- a constant of the module's own -/
theorem pe_gi {X : Cx} {x : Str} {i : Int} {pos : Pos} (hg : Gl X x) (hm : ∃ t, X.mg x = some (.int i t)) (hd : (x == ("__debug__" : Str)) = false := by decide) : PE X (.Name x pos) (tC (.int i)) := by
  obtain ⟨t, h⟩ := hm
  exact pe_glob hg h ⟨_, rfl⟩ hd
theorem pe_gr {X : Cx} {x : Str} {a : Addr} {pos : Pos} (hg : Gl X x) (hm : X.mg x = some (.ref a)) (hd : (x == ("__debug__" : Str)) = false := by decide) : PE X (.Name x pos) (tC (.ref a)) := pe_glob hg hm rfl hd
/-! ### values -/
section
variable {K : PySem.W.Frag} {σ : L2.St} {H H' : Hp} {ta tb te tl : TE} {t : TT} {x y z v : V}
abbrev iv (l : List Int) : List V := l.map V.int
def ni (n : Nat) : V := V.int (n : Int)
abbrev nv (l : List Nat) : List V := l.map ni
theorem ev_eqI {i j : Int} (ha : Ev ta σ H (.int i)) (hb : Ev tb σ H (.int j)) : EvT (tTest (tOp rEq ta tb)) σ H (decide (i = j)) := by
  refine et_is (et_test (ev_op ha hb (rv_eq rfl))) ?_
  simp
theorem ev_neI {i j : Int} (ha : Ev ta σ H (.int i)) (hb : Ev tb σ H (.int j)) : EvT (tTest (tOp rNe ta tb)) σ H (decide (i ≠ j)) := by
  refine et_is (et_test (ev_op ha hb (rv_ne rfl))) ?_
  simp
theorem et_yes : EvT tYes σ H true := fun H1 _ _ q => q H1 (Ex.refl H1)
theorem ev_andN {a b : Nat} (ha : Ev ta σ H (ni a)) (hb : Ev tb σ H (ni b)) : Ev (tOp (rI0 fun i j => .int (Builtin.bitAnd i j)) ta tb) σ H (ni (a &&& b)) := by
  refine ev_is (ev_op ha hb rv_I0) ?_
  rw [bitAnd_pp (by omega) (by omega), Int.toNat_natCast, Int.toNat_natCast]
  rfl
theorem ev_orN {a b : Nat} (ha : Ev ta σ H (ni a)) (hb : Ev tb σ H (ni b)) : Ev (tOp (rI0 fun i j => .int (Builtin.bitOr i j)) ta tb) σ H (ni (a ||| b)) := by
  refine ev_is (ev_op ha hb rv_I0) ?_
  rw [Bits.bitOr_pp (by omega) (by omega), Int.toNat_natCast, Int.toNat_natCast]
  rfl
theorem ev_ixN {p : Addr} {xs : List V} {i : Nat} (ha : Ev ta σ H (.ref p)) (hb : Ev tb σ H (ni i)) (h : SqL K H p xs) (hv : xs[i]? = some v) : Ev (tOp (rIxL K) ta tb) σ H v :=
  ev_op ha hb (rv_ixL h (atI_nat hv))
theorem ev_ixTN {p : Addr} {xs : List V} {i : Nat} (ha : Ev ta σ H (.ref p)) (hb : Ev tb σ H (ni i)) (h : SqT K H p xs) (hv : xs[i]? = some v) : Ev (tOp (rIxT K) ta tb) σ H v :=
  ev_op ha hb (rv_ixT h (atI_nat hv))
/-! calls of built-ins whose argument is a new list -/
theorem ev_allN {bs : List Bool} (h : EvL ta σ H (bs.map V.bl)) : Ev (tCB (rAll K) (tCons ta tNil)) σ H (.bl (bs.all id)) := fun H1 e Q q =>
  h H1 e _ fun p H2 _ e2 hp => ⟨p, bs, rfl, sq_of hp, q H2 e2⟩
theorem ev_sumN {ns : List Int} (h : EvL ta σ H (iv ns)) : Ev (tCB (rSum K) (tCons ta tNil)) σ H (.int ns.sum) := fun H1 e Q q =>
  h H1 e _ fun p H2 _ e2 hp => ⟨p, ns, rfl, sq_of hp, q H2 e2⟩
theorem ev_sum {ns : List Int} {a : Addr} (h : Ev ta σ H (.ref a)) (hs : SqL K H a (iv ns)) : Ev (tCB (rSum K) (tCons ta tNil)) σ H (.int ns.sum) := fun H1 e Q q =>
  h H1 e _ fun H2 e2 => ⟨a, ns, rfl, ex_l (e.trans e2) hs, q H2 e2⟩
theorem el_rg {i j : Int} (ha : Ev ta σ H (.int i)) (hb : Ev tb σ H (.int j)) (ok : RgOk i j) : EvL (tLstRg (tRg2 ta tb)) σ H (rgV i j) := fun H1 e Q q =>
  ha H1 e _ fun H2 e2 => hb H2 (e.trans e2) _ fun H3 e3 => ⟨i, j, rfl, rfl, ok, fun p hp => q p _ (fresh_back (e2.trans e3) hp) ((e2.trans e3).trans (Ex.new hp)) upd_same⟩
/-- a call that hands back a value, one that hands back a new list; one argument may be a new list -/
theorem ev_call1L {sp : Sp} {E : XK} {xs : List V} (h : EvL ta σ H xs) (hs : ∀ p H1, H1 p = some (.lst xs) → Ex H H1 → SpV sp [.ref p] H1 z) : Ev (tCall sp [] E (tCons ta tNil)) σ H z := fun H1 e Q q =>
  h H1 e _ fun p H2 _ e2 hp => hs p H2 hp (e.trans e2) H2 (Ex.refl H2) Q (fun H3 e3 => q H3 (e2.trans e3)) E
theorem ev_call2L {sp : Sp} {E : XK} {xs : List V} (h : EvL ta σ H xs) (h2 : Ev tb σ H y) (hs : ∀ p H1, H1 p = some (.lst xs) → Ex H H1 → SpV sp [.ref p, y] H1 z) : Ev (tCall sp [] E (tCons ta (tCons tb tNil))) σ H z := fun H1 e Q q =>
  h H1 e _ fun p H2 _ e2 hp => h2 H2 (e.trans e2) _ fun H3 e3 => hs p H3 (e3 _ _ hp) ((e.trans e2).trans e3) H3 (Ex.refl H3) Q (fun H4 e4 => q H4 ((e2.trans e3).trans e4)) E
theorem el_call2R {sp : Sp} {E : XK} {xs ys : List V} (h : Ev ta σ H x) (h2 : EvL tb σ H xs) (hs : ∀ p H1, H1 p = some (.lst xs) → Ex H H1 → SpL sp [x, .ref p] H1 ys) : EvL (tCall sp [] E (tCons ta (tCons tb tNil))) σ H ys := fun H1 e Q q =>
  h H1 e _ fun H2 e2 => h2 H2 (e.trans e2) _ fun p H3 _ e3 hp => hs p H3 hp ((e.trans e2).trans e3) H3 (Ex.refl H3) Q (fun r H4 hr e4 h4 => q r H4 (fresh_back (e2.trans e3) hr) ((e2.trans e3).trans e4) h4) E
/-! comprehensions -/
theorem filter_yes {α : Type} (l : List α) : l.filter (fun _ => true) = l := List.filter_eq_self.mpr fun _ _ => rfl
theorem given_take {α : Type} {l : List α} {p : α → Bool} {v : α → V} {f : Nat → Bool} {u : Nat → V} (hf : ∀ (i : Nat) (x : α), l[i]? = some x → f i = p x) (hu : ∀ (i : Nat) (x : α), l[i]? = some x → u i = v x) : ∀ n, n ≤ l.length → given n f u = ((l.take n).filter p).map v
  | 0, _ => rfl
  | n + 1, h => by
    obtain ⟨x, hx⟩ : ∃ x, l[n]? = some x := ⟨l[n], List.getElem?_eq_getElem (by omega)⟩
    rw [List.take_add_one, hx, List.filter_append, List.map_append, ← given_take hf hu n (by omega)]
    cases hp : p x with
    | true =>
      rw [given_yes (by rw [hf n x hx, hp]), hu n x hx]
      simp [hp]
    | false =>
      rw [given_no (by rw [hf n x hx, hp])]
      simp [hp]
theorem given_all {α : Type} {l : List α} {p : α → Bool} {v : α → V} {f : Nat → Bool} {u : Nat → V} (hf : ∀ (i : Nat) (x : α), l[i]? = some x → f i = p x) (hu : ∀ (i : Nat) (x : α), l[i]? = some x → u i = v x) : given l.length f u = (l.filter p).map v := by
  rw [given_take hf hu _ (Nat.le_refl _), List.take_length]
theorem el_map {α : Type} {l : List α} {en : α → V} {a : Addr} {j : Nat} {vs : List Nat} (p : α → Bool) (v : α → V) (h : Ev tl σ H (.ref a)) (hx : SqL K H a (l.map en)) (hz : l.length ≤ 40000) (hw : ∀ x, wipe ((wipe σ vs).set j (some x)) vs = wipe σ vs)
    (ht : ∀ x ∈ l, EvT t ((wipe σ vs).set j (some (en x))) H (p x)) (he : ∀ x ∈ l, p x = true → Ev te ((wipe σ vs).set j (some (en x))) H (v x)) : EvL (tLc (iList K tl) (gName j) t te vs) σ H ((l.filter p).map v) := by
  have key := el_lcL (K := K) (t := t) (te := te) (j := j) (vs := vs) (fun i => (l[i]?.map p).getD false) (fun i => (l[i]?.map v).getD .non) h hx (by rw [List.length_map]; exact hz) hw
    (fun i x H1 e hi => by
      rw [List.getElem?_map] at hi
      cases q : l[i]? with
      | none => rw [q] at hi; cases hi
      | some y =>
        rw [q] at hi
        cases hi
        exact (ht y (List.mem_of_getElem? q)).mono e)
    (fun i x H1 e hi hf => by
      rw [List.getElem?_map] at hi
      cases q : l[i]? with
      | none => rw [q] at hi; cases hi
      | some y =>
        rw [q] at hi
        cases hi
        have hf' : p y = true := by simpa [q] using hf
        simpa [q] using (he y (List.mem_of_getElem? q) hf').mono e)
  rw [List.length_map, given_all (l := l) (p := p) (v := v) (fun i x q => by simp [q]) (fun i x q => by simp [q])] at key
  exact key
theorem el_mapN {α : Type} {l : List α} {en : α → V} {j : Nat} {vs : List Nat} (p : α → Bool) (v : α → V) (h : EvL tl σ H (l.map en)) (hz : l.length ≤ 40000) (hw : ∀ x, wipe ((wipe σ vs).set j (some x)) vs = wipe σ vs)
    (ht : ∀ x ∈ l, EvT t ((wipe σ vs).set j (some (en x))) H (p x)) (he : ∀ x ∈ l, p x = true → Ev te ((wipe σ vs).set j (some (en x))) H (v x)) : EvL (tLc (iList K tl) (gName j) t te vs) σ H ((l.filter p).map v) := by
  have key := el_lcNL (K := K) (t := t) (te := te) (j := j) (vs := vs) (fun i => (l[i]?.map p).getD false) (fun i => (l[i]?.map v).getD .non) h (by rw [List.length_map]; exact hz) hw
    (fun i x H1 e hi => by
      rw [List.getElem?_map] at hi
      cases q : l[i]? with
      | none => rw [q] at hi; cases hi
      | some y =>
        rw [q] at hi
        cases hi
        exact (ht y (List.mem_of_getElem? q)).mono e)
    (fun i x H1 e hi hf => by
      rw [List.getElem?_map] at hi
      cases q : l[i]? with
      | none => rw [q] at hi; cases hi
      | some y =>
        rw [q] at hi
        cases hi
        have hf' : p y = true := by simpa [q] using hf
        simpa [q] using (he y (List.mem_of_getElem? q) hf').mono e)
  rw [List.length_map, given_all (l := l) (p := p) (v := v) (fun i x q => by simp [q]) (fun i x q => by simp [q])] at key
  exact key
theorem el_mapA {α : Type} {l : List α} {en : α → V} {a : Addr} {j : Nat} {vs : List Nat} (v : α → V) (h : Ev tl σ H (.ref a)) (hx : SqL K H a (l.map en)) (hz : l.length ≤ 40000) (hw : ∀ x, wipe ((wipe σ vs).set j (some x)) vs = wipe σ vs)
    (he : ∀ x ∈ l, Ev te ((wipe σ vs).set j (some (en x))) H (v x)) : EvL (tLc (iList K tl) (gName j) tYes te vs) σ H (l.map v) := by
  have key := el_map (te := te) (j := j) (vs := vs) (fun _ => true) v h hx hz hw (fun x _ => et_yes) (fun x hx _ => he x hx)
  rw [filter_yes] at key
  exact key
theorem el_rngA {ta : TA} {j : Nat} {vs : List Nat} {n : Nat} (v : Nat → V) (h : EvA ta σ H [ni n]) (hn : n ≤ 40000) (hw : ∀ x, wipe ((wipe σ vs).set j (some x)) vs = wipe σ vs)
    (he : ∀ i, i < n → Ev te ((wipe σ vs).set j (some (ni i))) H (v i)) : EvL (tLc (iRng1 ta) (gName j) tYes te vs) σ H ((List.range n).map v) := by
  have key := el_lcR1 (t := tYes) (te := te) (j := j) (vs := vs) (fun _ => true) v h ⟨by omega, by omega⟩ hw (fun i H1 e hi => et_yes) (fun i H1 e hi _ => (he i (by omega)).mono e)
  unfold given at key
  rw [filter_yes, Int.toNat_natCast] at key
  exact key
/-- a pair's two names -/
abbrev gTwo (K : PySem.W.Frag) (i j : Nat) : TG := gTup K 2 (gCons (gName i) (gCons (gName j) gNil))
theorem el_pairs {J : It} {n : Nat} {G : Hp → Prop} {xs ys : Nat → Option V} {wi : TI} {i j : Nat} {vs : List Nat} (f : Nat → Bool) (v : Nat → V) (hn : n ≤ 40000)
    (h : ∀ H1, Ex H H1 → ∀ R : It → Hp → Prop, (∀ H2, Ex H1 H2 → G H2 → R J H2) → wi σ H1 R) (w : Walk J n G (YPair xs ys)) (hG : ∀ H1 H2, Ex H1 H2 → G H1 → G H2) (hw : ∀ x y, wipe (((wipe σ vs).set i (some x)).set j (some y)) vs = wipe σ vs)
    (ht : ∀ k x y, k < n → xs k = some x → ys k = some y → EvT t (((wipe σ vs).set i (some x)).set j (some y)) H (f k)) (he : ∀ k x y, k < n → xs k = some x → ys k = some y → f k = true → Ev te (((wipe σ vs).set i (some x)).set j (some y)) H (v k)) :
    EvL (tLc wi (gTwo K i j) t te vs) σ H (given n f v) := fun H0 e0 Q q => h H0 e0 _ fun H1 e1 g1 Dl hD =>
  lc_it w (fun k H' => Cw H1 f v Dl k H') ⟨hD, Ex.new hD, upd_same⟩ (fun k H' _ p => hG H1 H' p.2.1 g1) (fun k x H' H'' hk p y => by
    obtain ⟨T, a, b, rfl, nT, rfl, ha, hb⟩ := y
    obtain ⟨p1, p2, p3⟩ := p
    refine ⟨T, [a, b], rfl, .inl (.inl upd_same), rfl, a, [b], rfl, b, [], rfl, rfl, hw a b, ?_⟩
    have p' : Cw H1 f v Dl k (upd H' T (.tup [a, b])) := ⟨p1, p2.trans (Ex.new nT), by rw [upd_ne (ne_of_none p3 nT)]; exact p3⟩
    exact cw_turn p' (by omega) ((ht k a b hk ha hb).mono (e0.trans e1)) (fun hf => (he k a b hk ha hb hf).mono (e0.trans e1)))
    (fun H' p => q Dl H' (fresh_back e1 p.1) (e1.trans p.2.1) p.2.2)
theorem el_enum {a : Addr} {l : List V} {i j : Nat} {vs : List Nat} (f : Nat → Bool) (v : Nat → V) (h : Ev tl σ H (.ref a)) (hx : SqL K H a l) (hz : l.length ≤ 40000) (hw : ∀ x y, wipe (((wipe σ vs).set i (some x)).set j (some y)) vs = wipe σ vs)
    (ht : ∀ k y, l[k]? = some y → EvT t (((wipe σ vs).set i (some (ni k))).set j (some y)) H (f k)) (he : ∀ k y, l[k]? = some y → f k = true → Ev te (((wipe σ vs).set i (some (ni k))).set j (some y)) H (v k)) :
    EvL (tLc (iEnum K (tCons tl tNil)) (gTwo K i j) t te vs) σ H (given l.length f v) := by
  refine el_pairs (G := fun H1 => SqL K H1 a l) f v hz (fun H1 e1 R r => h H1 e1 _ fun H2 e2 => ⟨a, l, rfl, ex_l (e1.trans e2) hx, r H2 e2 (ex_l (e1.trans e2) hx)⟩) walk_enum (fun H1 H2 e g => ex_l e g) hw (fun k x y hk hx' hy => ?_) (fun k x y hk hx' hy hf => ?_)
  · cases hx'
    exact ht k y hy
  · cases hx'
    exact he k y hy hf
end
end Sh
namespace Sh
open PySem PySem.Spec PyProof.Rows L2 Evl
/-! ### xs[lo:hi:st] of a list -/
def pickV (xs : List V) (lo hi st : Option Int) : List V := (sliceRange (sliceBounds lo hi st xs.length).1 (sliceBounds lo hi st xs.length).2.1 (sliceBounds lo hi st xs.length).2.2).filterMap (xs[·]?)
theorem vals_pick {xs : List V} {us : List Value} (r : Vals xs us) : ∀ ix : List Nat, Vals (ix.filterMap (xs[·]?)) (ix.filterMap (us.toArray[·]?))
  | [] => .nil
  | i :: ix => by
    have ih := vals_pick r ix
    cases e : xs[i]? with
    | none =>
      have e2 : us.toArray[i]? = none := by simpa using r.none_of e
      rw [List.filterMap_cons_none e, List.filterMap_cons_none e2]
      exact ih
    | some x =>
      obtain ⟨u, e2, ru⟩ := r.get e
      have e3 : us.toArray[i]? = some u := by simpa using e2
      rw [List.filterMap_cons_some e, List.filterMap_cons_some e3]
      exact .cons ru ih
theorem pickV_length (xs : List V) (lo hi : Option Int) {c : Int} (hc : 0 < c) : (pickV xs lo hi (some c)).length ≤ xs.length := by
  unfold pickV
  refine Nat.le_trans (List.length_filterMap_le _ _) ?_
  refine sliceRange_length_le _ _ _ _ (fun _ => ?_) (fun h => absurd (show (sliceBounds lo hi (some c) xs.length).2.2 > 0 from hc) h)
  constructor
  · show 0 ≤ (sliceBounds lo hi (some c) xs.length).1
    cases lo with
    | none => simp [sliceBounds, hc]
    | some i => simp only [sliceBounds, Option.getD_some, show c > 0 from hc, if_true]; omega
  · show (sliceBounds lo hi (some c) xs.length).2.1 ≤ _
    cases hi with
    | none => simp [sliceBounds, hc]
    | some i => simp only [sliceBounds, Option.getD_some, show c > 0 from hc, if_true]; omega
def tSlS (K : PySem.W.Frag) (te : TE) (tl th ts : TO) : TE := fun σ H Q => te σ H fun x H1 => tl σ H1 fun l H2 => th σ H2 fun u H3 => ts σ H3 fun c H4 =>
  ∃ a xs d, x = .ref a ∧ SqL K H4 a xs ∧ c = some d ∧ 0 < d ∧ ∀ p, H4 p = none → Q (.ref p) (upd H4 p (.lst (pickV xs l u (some d))))
section
variable {X : Cx} {e : Expr} {lo hi : Option Expr} {st : Expr} {te : TE} {tl th ts : TO} {p2 pos : Pos}
theorem pe_sliceS (he : PE X e te) (hl : PO X lo tl) (hu : PO X hi th) (hs : PO X (some st) ts)
    (hop : ∀ o i : Addr, subscripted (.Slice lo hi (some st) p2) false (.ref o) (.ref i) = operate [.ref o, .ref i] (getItem (.ref o) (.ref i)) := by intro _ _; with_unfolding_all rfl) : PE X (.Subscript e (.Slice lo hi (some st) p2) pos) (tSlS X.K te tl th ts) := by
  refine ⟨fun pins s σ H Q I h => ?_⟩
  refine Subscript_ (thn (he.run pins s σ H _ I h) fun v s1 ⟨x, H1, I1, r1, q1⟩ => ?_)
  refine wpAny_Slice (thn (hl.run pins s1 σ H1 _ I1 q1) fun vl s2 ⟨l, H2, I2, pl, q2⟩ => thn (hu.run pins s2 σ H2 _ I2 q2) fun vu s3 ⟨u, H3, I3, pu, q3⟩ => thn (hs.run pins s3 σ H3 _ I3 q3) fun vs s4 ⟨o, H4, I4, ps, q4⟩ => ?_)
  obtain ⟨a, xs, d, rfl, hx, rfl, hd, q⟩ := q4
  cases r1
  have I5 : Inv X pins σ H4 { s4 with heap := s4.heap.push { cls := .type "slice", data := .fields #[vl, vu, vs] } } := I4.kept (t' := s4.toks) fun b ob q => Heap.get?_push_of_some _ q
  obtain ⟨its, r, ht, hz⟩ := I5.list hx
  have hlen := r.length
  refine tail_any (ops := [.ref a, .ref s4.heap.objs.size]) ht.isList.typeIs (PySem.slot_list_getitem.lookup) ?_ (hop _ _)
  refine wpAny_getItem_list_slice ht.isList (Heap.IsSliceOf.new _ vl vu vs) pl pu ps (by simp; omega) ?_ (by rw [List.size_toArray]; omega)
  refine ⟨.ref _, _, I5.laid (t' := s4.toks) (o := .lst (pickV xs l u (some d))) (fun b ob q => Heap.get?_push_of_some _ q) (Nat.le_refl _) ?_, rfl, q _ (I5.hok.fresh (Nat.le_refl _))⟩
  refine ⟨Nat.le_trans (pickV_length xs l u hd) hz, _, 0, ?_, Heap.get?_push_size _ rfl⟩
  have k := vals_pick r (sliceRange (sliceBounds l u (some d) xs.length).1 (sliceBounds l u (some d) xs.length).2.1 (sliceBounds l u (some d) xs.length).2.2)
  have es : its.toArray.size = xs.length := by rw [List.size_toArray]; exact hlen.symm
  rw [← es] at k
  unfold pickV
  rw [← es]
  exact k
end
section
variable {K : PySem.W.Frag} {σ : L2.St} {H H' : Hp} {ta tb te tl : TE} {t : TT} {x y z v : V}
theorem el_slS {tl th ts : TO} {a : Addr} {xs : List V} {lo hi : Option Int} {c : Int} (h : Ev te σ H (.ref a)) (h1 : EvO tl σ H lo) (h2 : EvO th σ H hi) (h3 : EvO ts σ H (some c)) (hs : SqL K H a xs) (hc : 0 < c) : EvL (tSlS K te tl th ts) σ H (pickV xs lo hi (some c)) := fun H1 e _ q =>
  h H1 e _ fun H2 e2 => h1 H2 (e.trans e2) _ fun H3 e3 => h2 H3 ((e.trans e2).trans e3) _ fun H4 e4 => h3 H4 (((e.trans e2).trans e3).trans e4) _ fun H5 e5 =>
    ⟨a, xs, c, rfl, ex_l ((((e.trans e2).trans e3).trans e4).trans e5) hs, rfl, hc, fun p hp => q p _ (fresh_back (((e2.trans e3).trans e4).trans e5) hp) ((((e2.trans e3).trans e4).trans e5).trans (Ex.new hp)) upd_same⟩
/-- every second one -/
def evens {α : Type} : List α → List α
  | [] => []
  | [x] => [x]
  | x :: _ :: r => x :: evens r
theorem range_half : ∀ {α : Type} (l : List α), ((List.range ((l.length + 1) / 2)).map (2 * ·)).filterMap (l[·]?) = evens l
  | _, [] => by simp [evens]
  | _, [x] => by simp [evens, List.range_succ]
  | _, x :: y :: r => by
    have e : ((x :: y :: r).length + 1) / 2 = (r.length + 1) / 2 + 1 := by simp only [List.length_cons]; omega
    have ih := range_half r
    rw [e, List.range_succ_eq_map, List.map_cons, List.map_map]
    show x :: List.filterMap _ _ = x :: evens r
    rw [← ih, List.filterMap_map, List.filterMap_map]
    rfl
theorem pick_evens (xs : List V) : pickV xs (some 0) none (some 2) = evens xs := by
  unfold pickV
  rw [← range_half]
  congr 1
  simp only [sliceBounds, Option.getD_some, show (2 : Int) > 0 by decide, if_true]
  unfold sliceRange
  simp only [show (2 : Int) > 0 by decide, if_true]
  have e0 : max (0 : Int) (min (if (0 : Int) < 0 then 0 + (xs.length : Int) else 0) xs.length) = 0 := by simp; omega
  rw [e0]
  have e1 : (if (0 : Int) < xs.length then ((xs.length : Int) - 0 + 2 - 1) / 2 else 0).toNat = (xs.length + 1) / 2 := by
    split <;> omega
  rw [e1]
  refine List.map_congr_left fun k _ => ?_
  omega
theorem pick_odds (xs : List V) : pickV xs (some 1) none (some 2) = evens (xs.drop 1) := by
  unfold pickV
  rw [← range_half]
  simp only [sliceBounds, Option.getD_some, show (2 : Int) > 0 by decide, if_true]
  unfold sliceRange
  simp only [show (2 : Int) > 0 by decide, if_true]
  cases xs with
  | nil => rfl
  | cons x r =>
    have e0 : max (0 : Int) (min (if (1 : Int) < 0 then 1 + (((x :: r).length : Nat) : Int) else 1) (((x :: r).length : Nat) : Int)) = 1 := by simp; omega
    rw [e0]
    have e1 : (if (1 : Int) < (((x :: r).length : Nat) : Int) then ((((x :: r).length : Nat) : Int) - 1 + 2 - 1) / 2 else 0).toNat = (((x :: r).drop 1).length + 1) / 2 := by
      simp only [List.length_cons, List.length_drop]
      split <;> omega
    rw [e1, List.filterMap_map, List.filterMap_map]
    congr 1
    funext k
    show (x :: r)[(1 + 2 * (k : Int)).toNat]? = r[2 * k]?
    have e2 : (1 + 2 * (k : Int)).toNat = 2 * k + 1 := by omega
    rw [e2]
    rfl
/-! ### zip of two new lists, of a list and a new one -/
theorem el_zipN {xs ys : List V} {i j : Nat} {vs : List Nat} (f : Nat → Bool) (v : Nat → V) (hx : EvL ta σ H xs) (hy : EvL tb σ H ys) (hl : xs.length = ys.length) (hz : xs.length ≤ 40000) (hw : ∀ x y, wipe (((wipe σ vs).set i (some x)).set j (some y)) vs = wipe σ vs)
    (ht : ∀ k x y, xs[k]? = some x → ys[k]? = some y → EvT t (((wipe σ vs).set i (some x)).set j (some y)) H (f k)) (he : ∀ k x y, xs[k]? = some x → ys[k]? = some y → f k = true → Ev te (((wipe σ vs).set i (some x)).set j (some y)) H (v k)) :
    EvL (tLc (iZip K (tCons ta (tCons tb tNil))) (gTwo K i j) t te vs) σ H (given xs.length f v) := fun H0 e0 Q q => hx H0 e0 _ fun a H1 na e1 ha => hy H1 (e0.trans e1) _ fun b H2 nb e2 hb =>
  ⟨a, b, xs, ys, rfl, sq_of (e2 _ _ ha), sq_of hb, fun Dl hD =>
    lc_it (walk_zip (K := K) (a := a) (b := b) (xs := xs) (ys := ys) (n := xs.length) (by omega)) (fun k H' => Cw H2 f v Dl k H') ⟨hD, Ex.new hD, upd_same⟩ (fun k H' _ p => ⟨sq_of (p.2.1 _ _ (e2 _ _ ha)), sq_of (p.2.1 _ _ hb)⟩) (fun k x H' H'' hk p y => by
      obtain ⟨T, c, d, rfl, nT, rfl, hc, hd⟩ := y
      obtain ⟨p1, p2, p3⟩ := p
      refine ⟨T, [c, d], rfl, .inl (.inl upd_same), rfl, c, [d], rfl, d, [], rfl, rfl, hw c d, ?_⟩
      have p' : Cw H2 f v Dl k (upd H' T (.tup [c, d])) := ⟨p1, p2.trans (Ex.new nT), by rw [upd_ne (ne_of_none p3 nT)]; exact p3⟩
      exact cw_turn p' (by omega) ((ht k c d hc hd).mono ((e0.trans e1).trans e2)) (fun hf => (he k c d hc hd hf).mono ((e0.trans e1).trans e2)))
      (fun H' p => q Dl H' (fresh_back (e1.trans e2) p.1) ((e1.trans e2).trans p.2.1) p.2.2)⟩
/-- zip of two lists that stand -/
theorem el_zip {a b : Addr} {xs ys : List V} {i j : Nat} {vs : List Nat} (f : Nat → Bool) (v : Nat → V) (hx : Ev ta σ H (.ref a)) (hy : Ev tb σ H (.ref b)) (sa : SqL K H a xs) (sb : SqL K H b ys) (hl : xs.length = ys.length) (hz : xs.length ≤ 40000) (hw : ∀ x y, wipe (((wipe σ vs).set i (some x)).set j (some y)) vs = wipe σ vs)
    (ht : ∀ k x y, xs[k]? = some x → ys[k]? = some y → EvT t (((wipe σ vs).set i (some x)).set j (some y)) H (f k)) (he : ∀ k x y, xs[k]? = some x → ys[k]? = some y → f k = true → Ev te (((wipe σ vs).set i (some x)).set j (some y)) H (v k)) :
    EvL (tLc (iZip K (tCons ta (tCons tb tNil))) (gTwo K i j) t te vs) σ H (given xs.length f v) := fun H0 e0 Q q => hx H0 e0 _ fun H1 e1 => hy H1 (e0.trans e1) _ fun H2 e2 =>
  ⟨a, b, xs, ys, rfl, ex_l ((e0.trans e1).trans e2) sa, ex_l ((e0.trans e1).trans e2) sb, fun Dl hD =>
    lc_it (walk_zip (K := K) (a := a) (b := b) (xs := xs) (ys := ys) (n := xs.length) (by omega)) (fun k H' => Cw H2 f v Dl k H') ⟨hD, Ex.new hD, upd_same⟩ (fun k H' _ p => ⟨ex_l (((e0.trans e1).trans e2).trans p.2.1) sa, ex_l (((e0.trans e1).trans e2).trans p.2.1) sb⟩) (fun k x H' H'' hk p y => by
      obtain ⟨T, c, d, rfl, nT, rfl, hc, hd⟩ := y
      obtain ⟨p1, p2, p3⟩ := p
      refine ⟨T, [c, d], rfl, .inl (.inl upd_same), rfl, c, [d], rfl, d, [], rfl, rfl, hw c d, ?_⟩
      have p' : Cw H2 f v Dl k (upd H' T (.tup [c, d])) := ⟨p1, p2.trans (Ex.new nT), by rw [upd_ne (ne_of_none p3 nT)]; exact p3⟩
      exact cw_turn p' (by omega) ((ht k c d hc hd).mono ((e0.trans e1).trans e2)) (fun hf => (he k c d hc hd hf).mono ((e0.trans e1).trans e2)))
      (fun H' p => q Dl H' (fresh_back (e1.trans e2) p.1) ((e1.trans e2).trans p.2.1) p.2.2)⟩
end
end Sh
namespace Sh
open PySem PySem.Spec PyProof.Rows L2 Evl
/-! ### sorted(d.keys()), the keys tuples of ints -/
def keysO (p d : Addr) : HO := .ext fun h => PySem.W.KdlKeysView h p d
theorem keysO_ok {P : Program} {w : World} {H : Hp} {h : Heap} {p d : Addr} (e : h.get? p = some { cls := .type "dict_keys", data := .fields #[.ref d] }) : ObjOk P w H h p (keysO p d) :=
  ⟨⟨_, e, rfl, rfl⟩, ⟨_, e⟩, fun h1 h2 x k => let ⟨o, ho, r⟩ := x; ⟨o, k o ho, r⟩⟩
def rKeysT : V → List V → Hp → VK → Prop := fun x xs H Q => ∃ (a : Addr) (kvs : List (List L2.Key × V)), x = .ref a ∧ xs = [] ∧ H a = some (.dT kvs) ∧ ∀ p, H p = none → Q (.ref p) (upd H p (keysO p a))
theorem tup_items : ∀ {l : List Int} {us : List Value} (i : Nat), Vals (l.map V.int) us → tupItems (fun _ => false) i us = some (l.map Sum.inl)
  | [], _, i, h => by
    cases h
    rfl
  | n :: l, _, i, h => by
    cases h with
    | cons r1 r2 =>
      obtain ⟨t, rfl⟩ := r1
      have ih := tup_items (i + 1) r2
      simp only [tupItems, Bool.false_eq_true, if_false, ih]
      rfl
section
variable {X : Cx}
theorem mt_keysT : MtR X "dict.keys" rKeysT := by
  intro pins s σ H x xs v us Q I rx rxs h
  obtain ⟨a, kvs, rfl, rfl, ha, q⟩ := h
  cases rx
  cases rxs
  obtain ⟨z, hd, xs', rel, o, es, ep, ho, hx, hdat, _⟩ := dt_of I.hok ha
  have hm : s.heap.DictRaw a es ep := ⟨o, ho, hx, hdat⟩
  refine call_meetsIn PySem.F.slot_dict_keys hm.typeIs PySem.F.entry_dict_keys (PySem.F.args_dict_keys_1 _) (meets_dict_keys_raw a hd) ⟨⟨es, ep, hm⟩, ?_⟩
  have hf : H s.heap.objs.size = none := I.hok.fresh (Nat.le_refl _)
  exact ⟨.ref s.heap.objs.size, upd H s.heap.objs.size (keysO s.heap.objs.size a), I.laid (t' := s.toks) (fun b u e => Heap.get?_push_of_some _ e) (Nat.le_refl _) (keysO_ok (Heap.get?_push_size _ rfl)), rfl, q _ hf⟩
end
/-- the heap knows a tuple of ints -/
theorem tup_at {P : Program} {w : World} {H : Hp} {h : Heap} {b : Addr} {l : List Int} (ok : HOk P w H h) (e : H b = some (.tup (iv l))) : ∃ (o : Obj) (its : List Value) (n : Nat), h.get? b = some o ∧ o.cls = .type "tuple" ∧ o.data = .seq its.toArray n ∧ Vals (l.map V.int) its := by
  obtain ⟨_, its, rv, o, ho, hc, n, hd⟩ := (show ObjOk P w H h b (.tup (iv l)) from ok b _ e)
  exact ⟨o, its, n, ho, hc, hd, rv⟩
theorem tup_keyC {h : Heap} {b : Addr} {o : Obj} {its : List Value} {n : Nat} {l : List Int} (ho : h.get? b = some o) (hc : o.cls = .type "tuple") (hd : o.data = .seq its.toArray n) (rv : Vals (l.map V.int) its) : G.tupKeyC h (fun _ => false) (.ref b) = some (l.map Sum.inl) := by
  unfold G.tupKeyC
  have h1 : G.isTupObj h (.ref b) = true := by
    simp only [G.isTupObj, ho, hc]
    rfl
  rw [if_pos h1]
  simp only [tupKey, ho, hd]
  exact tup_items 0 rv
theorem tup_of {h : Heap} {b : Addr} {o : Obj} {its : List Value} {n : Nat} {l : List Int} (ho : h.get? b = some o) (hc : o.cls = .type "tuple") (hd : o.data = .seq its.toArray n) (rv : Vals (l.map V.int) its) (hl : 1 ≤ l.length) : ∃ f, TupOf h (fun _ => false) (.ref b) f := by
  cases l with
  | nil => simp at hl
  | cons i l =>
    cases rv with
    | cons r1 r2 =>
      obtain ⟨t, rfl⟩ := r1
      exact ⟨_, b, o, _, n, rfl, ho, hc, hd, by simp, fun _ => ⟨i, t, rfl⟩, fun z => by cases z⟩
theorem tups_of {h : Heap} : ∀ (zs : List (Addr × List Int)), (∀ z ∈ zs, 1 ≤ z.2.length ∧ ∃ (o : Obj) (its : List Value) (n : Nat), h.get? z.1 = some o ∧ o.cls = .type "tuple" ∧ o.data = .seq its.toArray n ∧ Vals (z.2.map V.int) its) → ∃ fs, TupsOf h (fun _ => false) (zs.map fun z => Value.ref z.1) fs
  | [], _ => ⟨[], .nil⟩
  | z :: zs, hz => by
    obtain ⟨hl, o, its, n, ho, hc, hd, rv⟩ := hz z (List.mem_cons_self ..)
    obtain ⟨f, tf⟩ := tup_of ho hc hd rv hl
    obtain ⟨fs, tfs⟩ := tups_of zs fun y hy => hz y (List.mem_cons_of_mem _ hy)
    exact ⟨f :: fs, .cons tf tfs⟩
/-- what a sort of tuples of ints leaves -/
theorem sort_out {h : Heap} {zl : List (Addr × List Int)} {arr : Array Keyed} (hz : ∀ z ∈ zl, G.tupKeyC h (fun _ => false) (.ref z.1) = some (z.2.map Sum.inl)) (hp : arr.Perm (pairsOf (zl.map fun z => Value.ref z.1))) (hs : SortedToK (G.tupKindC h (fun _ => false)) arr (pairsOf (zl.map fun z => Value.ref z.1)).size) :
    ∃ zs : List (Addr × List Int), zs.Perm zl ∧ (arr.map (·.2)).toList = zs.map (fun z => Value.ref z.1) ∧ (zs.map (·.2)).Pairwise (fun x y => lexLt itemOrd (y.map Sum.inl) (x.map Sum.inl) = false) := by
  have hp2 : arr.toList.Perm ((zl.map fun z => Value.ref z.1).zip (zl.map fun z => Value.ref z.1)) := by
    rw [← pairsOf_toList]
    exact Array.perm_iff_toList_perm.mp hp
  have he : zl.map (fun z => (Value.ref z.1, Value.ref z.1)) = (zl.map fun z => Value.ref z.1).zip (zl.map fun z => Value.ref z.1) := by
    clear hp hs hz hp2
    induction zl with
    | nil => rfl
    | cons z zl ih => rw [List.map_cons, List.map_cons, List.zip_cons_cons, ih]
  obtain ⟨zs, pz, ez⟩ := perm_lift (fun z : Addr × List Int => (Value.ref z.1, Value.ref z.1)) hp2 zl he
  refine ⟨zs, pz, ?_, ?_⟩
  · rw [Array.toList_map, ← ez, List.map_map]
    rfl
  · have hsz : (pairsOf (zl.map fun z => Value.ref z.1)).size = zs.length := by
      rw [pairsOf_size, List.length_map, pz.length_eq]
    rw [hsz] at hs
    rw [List.pairwise_iff_getElem]
    intro i j hi hj hij
    rw [List.length_map] at hi hj
    have key := hs i j (Nat.le_of_lt hij) hj
    have kk : ∀ (m : Nat) (hm : m < zs.length), KK (G.tupKindC h (fun _ => false)) arr m = (zs[m].2.map Sum.inl) := by
      intro m hm
      unfold KK
      have e : arr[m]? = some (Value.ref zs[m].1, Value.ref zs[m].1) := by
        rw [← Array.getElem?_toList, ← ez, List.getElem?_map, List.getElem?_eq_getElem hm]
        rfl
      rw [e]
      show ((G.tupKindC h (fun _ => false)).keyOf (Value.ref zs[m].1)).getD _ = _
      have e2 : (G.tupKindC h (fun _ => false)).keyOf (Value.ref zs[m].1) = some (zs[m].2.map Sum.inl) := hz zs[m] (pz.mem_iff.mp (List.getElem_mem hm))
      rw [e2]
      rfl
    rw [kk i hi, kk j hj] at key
    simp only [List.getElem_map]
    exact key
section
variable {prog : Program} {w : World} {A : Around} {E : Value → Shared → Prop} {s : Shared} {T : String} {r d : Addr} {n : Nat} {P : Nat → Value → Prop} {OK : Heap → Prop}
/-- what is walked is gathered; the heap grows -/
theorem collect_up {R : List Value → Shared → Prop} (K : PySem.W.KdlSrc prog w T r d n P OK) (hh : A.handled = none) (hok : OK s.heap) (hn : n ≤ sizeLine)
    (h : ∀ (h' : Heap) (tk : Nat) (acc : Array Value), s.heap.objs.size < h'.objs.size → (∀ b o, s.heap.get? b = some o → h'.get? b = some o) → ItemsOf P acc n → R acc.toList { s with heap := h', toks := tk }) :
    wpAny (model prog w) A (collect (.ref r)) R E s := by
  have low := K.there _ hok
  have at0 : (s.heap.push { cls := .type "list", data := .seq ([] : List Value).toArray }).get? s.heap.objs.size = some { cls := .type "list", data := .seq #[] } := Heap.get?_push_size _ rfl
  have ext := PySem.W.kdl_extend (A := A) (s := { s with heap := s.heap.push { cls := .type "list", data := .seq ([] : List Value).toArray } })
    (R := fun (q : Result) (s' : Shared) => ∃ (h' : Heap) (tk : Nat) (acc' : Array Value) (c' : Nat), q = .ok (.ret (.ref s.heap.objs.size)) ∧ s' = { s with heap := h', toks := tk } ∧ (∀ b o, s.heap.get? b = some o → h'.get? b = some o) ∧
      h'.get? s.heap.objs.size = some { cls := .type "list", dict := none, data := .seq acc' c', slots := #[] } ∧ ItemsOf P acc' n) K hh (K.keep _ _ hok fun b _ o e => Heap.get?_push_of_some _ e) s.heap.objs.size (Nat.ne_of_gt low.1) (Nat.ne_of_gt low.2) (.ref s.heap.objs.size) 0 at0
    (fun h' tk acc' c' hk hS' hacc => ⟨h', tk, acc', c', rfl, rfl, fun b o e => hk b o (Nat.ne_of_lt (Heap.lt_size e)) (Heap.get?_push_of_some _ e), hS', hacc⟩) hn
  have fin : ∀ (h' : Heap) (tk : Nat) (acc' : Array Value) (c' : Nat), (∀ b o, s.heap.get? b = some o → h'.get? b = some o) → h'.get? s.heap.objs.size = some { cls := .type "list", dict := none, data := .seq acc' c', slots := #[] } → ItemsOf P acc' n →
      R acc'.toList { s with heap := h', toks := tk } := fun h' tk acc' c' hk hS' hacc => h h' tk acc' (Heap.lt_size hS') hk hacc
  unfold collect
  refine wpAny_bind (wpAny_runValue (codeAny_builtin entry_proto_collect' ?_))
  rw [Around.under_plainId PySem.F.plain_proto_collect _]
  refine wpAny_bind (m := newList []) (wpAny_newObj_type ?_)
  refine wpAny_pure ⟨plainId_quiet PySem.F.plain_list_iadd _, codeAny_builtin entry_list_iadd' ?_⟩
  rw [Around.under_plainId PySem.F.plain_list_iadd _]
  refine wpAny_mono (show wpAny (model prog w) A.in1 (Builtin.List.listExtendWith (.ref s.heap.objs.size) (.ref r) (.ref s.heap.objs.size)) _ _ _ from ext) (fun f s' x => ?_) fun e s' x => ?_
  · cases f with
    | done g =>
      obtain ⟨h', tk, acc', c', e, rfl, hk, hS', hacc⟩ := x
      cases e
      exact wpAny_bind (m := load s.heap.objs.size) (wpAny_load hS' (wpAny_pure (fin h' tk acc' c' hk hS' hacc)))
    | again c₁ =>
      refine ⟨x.1, codeAny_mono x.2 fun q s₂ y => ?_⟩
      obtain ⟨h', tk, acc', c', rfl, rfl, hk, hS', hacc⟩ := y
      exact wpAny_bind (m := load s.heap.objs.size) (wpAny_load hS' (wpAny_pure (fin h' tk acc' c' hk hS' hacc)))
  · obtain ⟨_, _, _, _, e', _⟩ := x
    cases e'
end
def rSortK : List V → Hp → VK → Prop := fun vs H Q => ∃ (p a : Addr) (kvs : List (List L2.Key × V)) (ks : List (List Int)), vs = [.ref p] ∧ H p = some (keysO p a) ∧ H a = some (.dT kvs) ∧ kvs.map (·.1) = ks.map (fun l => l.map Sum.inl) ∧ (∀ l ∈ ks, 1 ≤ l.length) ∧
  ∀ (r : Addr) (zs : List (Addr × List Int)), (zs.map (·.2)).Perm ks → (zs.map (·.2)).Pairwise (fun x y => lexLt itemOrd (y.map Sum.inl) (x.map Sum.inl) = false) → (∀ z ∈ zs, H z.1 = some (.tup (iv z.2))) → H r = none → Q (.ref r) (upd H r (.lst (zs.map fun z => V.ref z.1)))
section
variable {X : Cx}
theorem zip_ks {H : Hp} : ∀ {kvs : List (List L2.Key × V)} {xs : List (List L2.Key × Addr × Value)} {ks : List (List Int)}, KT H kvs xs → kvs.map (·.1) = ks.map (fun l => l.map Sum.inl) →
    ∃ zl : List (Addr × List Int), zl.map (·.2) = ks ∧ zl.map (·.1) = xs.map (fun x => x.2.1) ∧ ∀ z ∈ zl, H z.1 = some (.tup (iv z.2)) := by
  intro kvs xs ks r
  induction r generalizing ks with
  | nil =>
    intro e
    cases ks with
    | nil => exact ⟨[], rfl, rfl, fun z hz => by simp at hz⟩
    | cons l ks => simp at e
  | cons h t ih =>
    intro e
    cases ks with
    | nil => simp at e
    | cons l ks =>
      rw [List.map_cons, List.map_cons] at e
      obtain ⟨e1, e2⟩ := List.cons.inj e
      obtain ⟨zl, h1, h2, h3⟩ := ih e2
      rename_i kv x kvs' xs'
      refine ⟨(x.2.1, l) :: zl, by rw [List.map_cons, h1], by rw [List.map_cons, List.map_cons, h2], fun z hz => ?_⟩
      rcases List.mem_cons.mp hz with rfl | hz
      · have h4 := h.2.1
        rw [e1, List.map_map] at h4
        exact h4
      · exact h3 z hz
theorem cr_sortedKeys (hc : X.calm = true) : CallR X (.builtin "sorted") rSortK := by
  intro pins s σ H vs us Q I r h
  obtain ⟨p, a, kvs, ks, rfl, hp, ha, hks, hl1, q⟩ := h
  obtain rfl := Vals.ref1 r
  have view : PySem.W.KdlKeysView s.heap p a := (show ObjOk X.prog X.w H s.heap p (keysO p a) from I.hok p _ hp).1
  obtain ⟨z, hd, xs', rel, o, es, ep, ho, hx, hdat, hes, his, hn⟩ := dt_of I.hok ha
  obtain ⟨zl, e2, e1, hz⟩ := zip_ks rel hks
  have l1 : kvs.length = xs'.length := Paired.length rel
  have l2 : es.size = xs'.length := size_of_entries hes
  have hh : X.A.handled = none := I.ok.hd hc
  refine Calls.call_function_entry kind_sorted plain_sorted entry_sorted (args_sorted1 _) ?_
  unfold Builtin.«sorted»
  refine wpAny_bind (m := checkCount "sorted" 1 1 _) (wpAny_pure ?_)
  refine wpAny_bind (collect_up (A := X.A.in1) (KdlSrc.rawKeys (r := p) (d := a) (es := es) (ep := ep)) hh ⟨view, ⟨o, ho, hx, hdat⟩⟩ (by omega) fun h' tk acc hlt' hk hacc => ?_)
  have hlt := Nat.le_of_lt hlt'
  have ea : acc.toList = zl.map fun z => Value.ref z.1 := by
    have e0 : (zl.map fun z => Value.ref z.1) = (xs'.map fun x => x.2.1).map Value.ref := by rw [← e1, List.map_map]; rfl
    rw [e0, List.map_map]
    apply List.ext_getElem?
    intro j
    rw [List.getElem?_map]
    cases hj : acc.toList[j]? with
    | none =>
      have h1 := List.getElem?_eq_none_iff.mp hj
      rw [Array.length_toList, hacc.1] at h1
      rw [List.getElem?_eq_none (by omega)]
      rfl
    | some v =>
      obtain ⟨hi, hv⟩ := hacc.2 j v (by rw [← Array.getElem?_toList]; exact hj)
      have qe := entry_at hes j
      rw [Array.getElem?_eq_getElem hi] at qe
      cases hb : xs'[j]? with
      | none =>
        rw [hb] at qe
        cases qe
      | some b =>
        rw [hb] at qe
        have e2 := Option.some.inj qe
        rw [hv, e2]
        rfl
  have hlen : (zl.map fun z => Value.ref z.1).length ≤ sizeLine := by
    have : zl.length = xs'.length := by rw [← List.length_map (f := fun z : Addr × List Int => z.1), e1, List.length_map]
    rw [List.length_map]
    omega
  rw [ea]
  refine wpAny_bind (wpAny_newList ?_ hlen)
  have hob : (h'.push { cls := .type "list", data := .seq (zl.map fun z => Value.ref z.1).toArray }).get? h'.objs.size = some (seqObj "list" (zl.map fun z => Value.ref z.1).toArray 0) := Heap.get?_push_size _ rfl
  have kb : ∀ b o, s.heap.get? b = some o → (h'.push { cls := .type "list", data := .seq (zl.map fun z => Value.ref z.1).toArray }).get? b = some o := fun b o e => Heap.get?_push_of_some _ (hk b o e)
  have ne0 : ∀ b o, s.heap.get? b = some o → b ≠ h'.objs.size := fun b o e => Nat.ne_of_lt (Heap.lt_size (hk b o e))
  generalize h'.push { cls := .type "list", data := .seq (zl.map fun z => Value.ref z.1).toArray } = h2 at hob kb ⊢
  have tin : ∀ z ∈ zl, ∃ (o : Obj) (its : List Value) (n : Nat), h2.get? z.1 = some o ∧ o.cls = .type "tuple" ∧ o.data = .seq its.toArray n ∧ Vals (z.2.map V.int) its := fun z hzm => by
    obtain ⟨o, its, n, h1, h2, h3, h4⟩ := tup_at I.hok (hz z hzm)
    exact ⟨o, its, n, kb _ _ h1, h2, h3, h4⟩
  have hkey : ∀ z ∈ zl, G.tupKeyC h2 (fun _ => false) (.ref z.1) = some (z.2.map Sum.inl) := fun z hzm => by
    obtain ⟨o, its, n, a1, a2, a3, a4⟩ := tin z hzm
    exact tup_keyC a1 a2 a3 a4
  obtain ⟨fs, tfs⟩ := tups_of (h := h2) zl fun z hzm => ⟨hl1 _ (by rw [← e2]; exact List.mem_map.mpr ⟨z, hzm, rfl⟩), tin z hzm⟩
  refine wpAny_bind (wpAny_holding (wpAny_call_entry PyProof.Rows.slot_list_sort ⟨_, hob, rfl⟩ PyProof.Rows.entry_list_sort
    (G.list_sort_tups (s := { s with heap := h2, toks := tk }) (shape := fun _ => false) hob tfs (fun v hv => ?_) hlen fun st' a1 a2 a3 => ⟨.none, rfl, ?_⟩) (PyProof.Rows.args_list_sort _)))
  · obtain ⟨z, hzm, rfl⟩ := List.mem_map.mp hv
    exact ⟨_, hkey z hzm⟩
  · obtain ⟨zs, pz, eo, hs⟩ := sort_out hkey a1 a2
    refine wpAny_pure ⟨_, rfl, ?_⟩
    have kS : ∀ b o, s.heap.get? b = some o → (sortedHeap h2 h'.objs.size (zl.map fun z => Value.ref z.1) ((arrOf st').map (·.2))).get? b = some o := fun b o e => (PyProof.Rows.sortedHeap_old (ne0 b o e) (Heap.lt_size (kb b o e))).trans (kb b o e)
    obtain ⟨eF, heF⟩ := PyProof.Rows.sortedHeap_at (vs := zl.map fun z => Value.ref z.1) (out := (arrOf st').map (·.2)) hob
    refine ⟨.ref h'.objs.size, upd H h'.objs.size (.lst (zs.map fun z => V.ref z.1)), I.laid (t' := tk) kS hlt ⟨?_, _, eF, ?_, by rw [Array.toArray_toList]; exact heF⟩, rfl, q _ zs ?_ hs (fun z hzm => hz z (pz.mem_iff.mp hzm)) (I.hok.fresh hlt)⟩
    · rw [List.length_map, pz.length_eq]
      rw [List.length_map] at hlen
      exact hlen
    · rw [eo]
      have e3 : (zs.map fun z => V.ref z.1) = (zs.map (·.1)).map V.ref := by rw [List.map_map]; rfl
      have e4 : (zs.map fun z => Value.ref z.1) = (zs.map (·.1)).map Value.ref := by rw [List.map_map]; rfl
      rw [e3, e4]
      exact vals_refs _
    · rw [← e2]
      exact pz.map _
end
end Sh
namespace Sh
open PySem PySem.Spec PyProof.Rows L2 Evl LamX NdefX
/-! ### a lambda with parameters, called -/
theorem lam_run {CX : CXT} {P : Program} {w : World} {K : PySem.W.Frag} {mg : Str → Option Value} {base : Heap} {N ps fr : List Str} {F : NF} {f : Addr} {A : Around} {outer : List Env} {s : Shared} {H : Hp} {E : XK} {us : List Value} {vs : List V} {ws : List (Option V)} {Q : VK}
    {params : Arguments} {body : Expr} {pm ctv : Value} {k : Nat} {tb : TE} (S : NScope N ps fr F.scope) (ho : s.heap.get? f = some (PySem.W.kla_obj "<lambda>" F.qual params body F.scope F.cl pm F.c ctv))
    (hb : bindArgs (PySem.W.kla_fn "<lambda>" F.qual params body F.scope F.cl pm (.ref F.c) ctv) ⟨us, []⟩ = pure (ps.zip us)) (hr : Room (k + 1) A) (e0 : Env0 P w K mg base A outer s H) (hc : H F.c = some (CodeO F.c F.qual))
    (C : CellsAt F.cl fr ws s.heap H) (hl : vs.length = ps.length) (r : Vals vs us) (hbody : Room k (A.deeper (envF F f s.heap.objs.size)) → PE (ncx CX P w K mg base N F f A outer s H E) body tb) (q : tb (startF N vs ws) H Q) :
    codeAny (model P w) A (.call (.ref f) ⟨us, []⟩) (CR CX outer P w H s Q E) s := by
  have lim : s.heap.NoLimit := e0.mod.nolimit.keeps fun b o e => (e0.bs b o e).1
  obtain ⟨⟨oc, xs, t, hoc, hdc, hvc⟩, _, _⟩ := e0.hok F.c _ hc
  refine PySem.W.kla_callFunE hr.depth ho rfl S.co S.gen rfl ⟨F.c, oc, xs, t, rfl, hoc, hdc, hvc⟩ ?_
  rw [hb]
  refine wpAny_pure (wpAny_newFunctionEnv S.nocell (fun ⟨n, _⟩ hy => S.par n (List.of_mem_zip hy).1) (fun h₁ hns hsb => ⟨lim.fresh _ hsb, ?_⟩) S.kind)
  show codeAny _ _ (.expr body (envF F f s.heap.objs.size)) _ _
  have kp : ∀ b o, s.heap.get? b = some o → h₁.get? b = some o := fun b o e => hsb.extBut b o (Nat.ne_of_lt (Heap.lt_size e)) (Heap.get?_push_of_some _ e)
  have I : Inv (ncx CX P w K mg base N F f A outer s H E) [] (startF N vs ws) H { s with heap := h₁, toks := s.toks + (ps.zip us).length } := inv_startN S hr.hd e0 hl r C hns kp
  refine PySem.W.kla_codeExpr (wpAny_mono ((hbody (hr.deeper _)).run [] _ _ H Q I q) (fun v s' hq => ?_) fun e s' hq => hq)
  obtain ⟨v', H', J, rv, q'⟩ := hq
  exact ⟨v', H', J.os, J.bare, J.base, J.hok, rv, q'⟩
/-! ### list.sort by keys that are tuples of ints: what is done with the keys -/
section
variable {prog : Program} {w : World} {A : Around} {E : Value → Shared → Prop} {s : Shared} {a kS : Addr} {vs : List Value} {kA : Array Value} {e e1 : Nat} {P : PySem.Fin → Shared → Prop}
def endHeap (h : Heap) (kS a : Addr) (out : Array Value) : Heap := (h.update kS (Obj.mapSeq fun _ => (#[] : Array Value))).update a (Obj.mapSeq fun _ => out)
theorem tail_tups {st : SortSt} (ha : s.heap.get? a = some (seqObj "list" #[] e1)) (hk : s.heap.get? kS = some (seqObj "list" kA e)) (hne : kS ≠ a) (hL : kA.size ≤ 1000) (ho : (arrOf st).size ≤ 1000) (hf : failedOf st = none)
    (h : P (.done (.ret .none)) { s with heap := endHeap s.heap kS a ((arrOf st).map (·.2)) }) : wpAny (model prog w) A (ksk_tail a false e1 (.ref kS) st) P E s := by
  have s1 := Heap.SameBut.update s.heap kS (Obj.mapSeq fun _ => (#[] : Array Value))
  have na1 : (s.heap.update kS (Obj.mapSeq fun _ => (#[] : Array Value))).get? a = some (seqObj "list" #[] e1) := (s1.2 a hne.symm).trans ha
  unfold ksk_tail
  try dsimp only
  refine wpAny_bind (listUpdate_at hk rfl ?_ (by rw [sizeLine_eq]; omega) (Nat.zero_le _))
  refine wpAny_bind (wpAny_letGo ?_)
  refine wpAny_bind (seqEpoch_at na1 rfl ?_)
  refine wpAny_bind (listUpdate_at na1 rfl ?_ (Nat.zero_le _) (by simp only [Bool.false_eq_true, if_false]; rw [Array.size_map, sizeLine_eq]; omega))
  rw [hf]
  simp only [bne_self_eq_false, Bool.false_eq_true, if_false]
  exact wpAny_pure h
theorem end_tups {fs : List Value} (ha : s.heap.get? a = some (seqObj "list" #[] e1)) (hk : s.heap.get? kS = some (seqObj "list" kA e)) (hne : kS ≠ a) (hsz : kA.size = vs.length) (hL : vs.length ≤ 1000)
    (ht : TupsOf s.heap (fun _ => false) kA.toList fs) (hkey : ∀ v ∈ kA.toList, ∃ l, G.tupKeyC s.heap (fun _ => false) v = some l)
    (h : ∀ arr : Array Keyed, arr.Perm (kA.zip vs.toArray) → SortedToK (G.tupKindC s.heap (fun _ => false)) arr (kA.zip vs.toArray).size → P (.done (.ret .none)) { s with heap := endHeap s.heap kS a (arr.map (·.2)) }) :
    wpAny (model prog w) A (ksk_end a false vs.toArray e1 (.ref kS) kA) P E s := by
  have hzs : (kA.zip vs.toArray).size = vs.length := by rw [Array.size_zip, hsz, List.size_toArray, Nat.min_self]
  unfold ksk_end
  try dsimp only
  simp only [Bool.false_eq_true, if_false]
  by_cases h2 : vs.toArray.size < 2
  · rw [if_pos h2, if_pos h2]
    refine wpAny_bind (wpAny_pure ?_)
    rw [StateT.run_pure]
    refine wpAny_bind (wpAny_pure ?_)
    try dsimp only
    refine tail_tups (st := SortSt.mk' general' (kA.zip vs.toArray) #[] 7 none) ha hk hne (by omega) (Nat.le_trans (Nat.le_of_eq hzs) hL) rfl (h _ (Array.Perm.refl _) ?_)
    intro i j hij hj
    rw [hzs] at hj
    rw [List.size_toArray] at h2
    have : i = j := by omega
    subst this
    exact KeyOrd.kle_refl _
  · rw [if_neg h2, if_neg h2]
    rw [List.size_toArray] at h2
    have hfl : fs.length = kA.size := (G.TupsOf.length ht).trans Array.length_toList
    have keys : KeysOf (G.tupKindC s.heap (fun _ => false)) (kA.zip vs.toArray) := by
      intro p hp
      rw [ksk_zip] at hp
      exact hkey p.1 (List.of_mem_zip hp).1
    have hkk : ∀ {Q : SortKind → Shared → Prop}, Q (tuples' true) s → wpAny (model prog w) A (keyKind' kA) Q E s := fun {Q} hq => by
      have := tup_kind (M := model prog w) (A := A) (E := E) (s := s) (Q := Q) (by omega) ht hq
      rw [Array.toArray_toList] at this
      exact this
    refine wpAny_bind (hkk ?_)
    try dsimp only
    refine wpAny_bind (wpAny_mono (G.wpS_sortRunsSt (κ := G.tupKindC s.heap (fun _ => false)) (kd := tuples' true) (a₀ := kA.zip vs.toArray) (st := SortSt.mk' (tuples' true) (kA.zip vs.toArray) #[] 7 none)
      (Q := fun _ st' => (arrOf st').Perm (kA.zip vs.toArray) ∧ failedOf st' = none ∧ SortedToK (G.tupKindC s.heap (fun _ => false)) (arrOf st') (kA.zip vs.toArray).size)
      (G.tupC_ltAt true (G.KeepsTups.refl _)) keys ⟨Array.Perm.refl _, rfl, rfl⟩ rfl (Stable.refl _) (by omega) fun st' a1 a2 a3 a4 => ⟨a1, a2, a3⟩) ?_ fun _ _ e => e)
    rintro ⟨⟨⟩, st'⟩ s' ⟨rfl, hp, hf, hs⟩
    try dsimp only
    exact tail_tups ha hk hne (by omega) (by rw [hp.size_eq]; omega) hf (h _ hp hs)
end
/-! ### what the sort by keys leaves -/
abbrev kl (k : Int × Int) : List (Int ⊕ List Nat) := [Sum.inl k.1, Sum.inl k.2]
theorem keyed_out {h : Heap} {g : Int → Int × Int} {ts : List Addr} {ns : List Int} {its : List Value} {arr : Array Keyed} {kA : Array Value} (ek : kA.toList = ts.map Value.ref) (hl : ts.length = ns.length) (rv : Vals (iv ns) its)
    (hz : ∀ (j : Nat) (t : Addr) (n : Int), ts[j]? = some t → ns[j]? = some n → G.tupKeyC h (fun _ => false) (.ref t) = some (kl (g n))) (hp : arr.Perm (kA.zip its.toArray)) (hs : SortedToK (G.tupKindC h (fun _ => false)) arr (kA.zip its.toArray).size) :
    ∃ ns' : List Int, Vals (iv ns') (arr.map (·.2)).toList ∧ ns'.Perm ns ∧ ns'.Pairwise (fun m n => lexLt itemOrd (kl (g n)) (kl (g m)) = false) := by
  have hli : ns.length = its.length := by rw [← rv.length, iv, List.length_map]
  have hp2 : arr.toList.Perm ((ts.map Value.ref).zip its) := by
    rw [← ek, ← ksk_zip]
    exact Array.perm_iff_toList_perm.mp hp
  have he : (ts.zip (ns.zip its)).map (fun z => (Value.ref z.1, z.2.2)) = (ts.map Value.ref).zip its := by
    apply List.ext_getElem?
    intro j
    rw [List.getElem?_map]
    by_cases hj : j < ts.length
    · have h1 : (ts.zip (ns.zip its))[j]? = some (ts[j], ns[j]'(by omega), its[j]'(by omega)) := List.getElem?_zip_eq_some.mpr ⟨List.getElem?_eq_getElem hj, List.getElem?_zip_eq_some.mpr ⟨List.getElem?_eq_getElem (by omega), List.getElem?_eq_getElem (by omega)⟩⟩
      have h2 : ((ts.map Value.ref).zip its)[j]? = some (Value.ref ts[j], its[j]'(by omega)) := List.getElem?_zip_eq_some.mpr ⟨by rw [List.getElem?_map, List.getElem?_eq_getElem hj]; rfl, List.getElem?_eq_getElem (by omega)⟩
      rw [h1, h2]
      rfl
    · rw [List.getElem?_eq_none (by simp only [List.length_zip]; omega), List.getElem?_eq_none (by simp only [List.length_zip, List.length_map]; omega)]
      rfl
  obtain ⟨zs, pz, ez⟩ := perm_lift (fun z : Addr × Int × Value => (Value.ref z.1, z.2.2)) hp2 _ he
  have hm : ∀ z ∈ zs, ∃ j : Nat, ts[j]? = some z.1 ∧ ns[j]? = some z.2.1 ∧ its[j]? = some z.2.2 := fun z hz => by
    obtain ⟨j, hj⟩ := List.mem_iff_getElem?.mp (pz.mem_iff.mp hz)
    obtain ⟨a, b⟩ := List.getElem?_zip_eq_some.mp hj
    obtain ⟨c, d⟩ := List.getElem?_zip_eq_some.mp b
    exact ⟨j, a, c, d⟩
  refine ⟨zs.map (·.2.1), ?_, ?_, ?_⟩
  · have e1 : (arr.map (·.2)).toList = zs.map (·.2.2) := by
      rw [Array.toList_map, ← ez, List.map_map]
      rfl
    rw [e1, iv, List.map_map]
    have : ∀ l : List (Addr × Int × Value), (∀ z ∈ l, RelV (.int z.2.1) z.2.2) → Vals (l.map (V.int ∘ fun z => z.2.1)) (l.map (·.2.2)) := fun l => by
      induction l with
      | nil => exact fun _ => .nil
      | cons z l ih => exact fun h => .cons (h z (List.mem_cons_self ..)) (ih fun y hy => h y (List.mem_cons_of_mem _ hy))
    refine this zs fun z hzm => ?_
    obtain ⟨j, _, b, c⟩ := hm z hzm
    obtain ⟨u, hu, ru⟩ := rv.get (i := j) (x := .int z.2.1) (by rw [iv, List.getElem?_map, b]; rfl)
    rw [c] at hu
    cases hu
    exact ru
  · have e2 : (ts.zip (ns.zip its)).map (·.2.1) = ns := by
      have := List.map_snd_zip (l₁ := ts) (l₂ := ns.zip its) (by rw [List.length_zip]; omega)
      have e3 : (ts.zip (ns.zip its)).map (·.2.1) = ((ts.zip (ns.zip its)).map Prod.snd).map Prod.fst := by rw [List.map_map]; rfl
      rw [e3, this, List.map_fst_zip (by omega)]
    have := pz.map (·.2.1)
    rw [e2] at this
    exact this
  · have hsz : (kA.zip its.toArray).size = zs.length := by
      have h1 := hp.size_eq
      have h2 : arr.toList.length = zs.length := by rw [← ez, List.length_map]
      rw [Array.length_toList] at h2
      omega
    rw [hsz] at hs
    rw [List.pairwise_iff_getElem]
    intro i j hi hj hij
    rw [List.length_map] at hi hj
    have key := hs i j (Nat.le_of_lt hij) hj
    have kk : ∀ (m : Nat) (hm' : m < zs.length), KK (G.tupKindC h (fun _ => false)) arr m = kl (g zs[m].2.1) := by
      intro m hm'
      unfold KK
      have e : arr[m]? = some (Value.ref zs[m].1, zs[m].2.2) := by
        rw [← Array.getElem?_toList, ← ez, List.getElem?_map, List.getElem?_eq_getElem hm']
        rfl
      rw [e]
      show ((G.tupKindC h (fun _ => false)).keyOf (Value.ref zs[m].1)).getD _ = _
      obtain ⟨q, a, b, _⟩ := hm zs[m] (List.getElem_mem hm')
      have e2 : (G.tupKindC h (fun _ => false)).keyOf (Value.ref zs[m].1) = some (kl (g zs[m].2.1)) := hz q _ _ a b
      rw [e2]
      rfl
    rw [kk i hi, kk j hj] at key
    simp only [List.getElem_map]
    exact key
end Sh
namespace Sh
open PySem PySem.Spec PyProof.Rows L2 Evl LamX NdefX
theorem sq_extN {K : PySem.W.Frag} {H H' : Hp} {a : Addr} {xs : List V} (e : ExtN H H') (h : SqL K H a xs) : SqL K H' a xs := by
  rcases h with (h | ⟨o, h⟩) | h
  · exact .inl (.inl (e _ _ h fun ps z => by cases z))
  · exact .inl (.inr ⟨o, e _ _ h fun ps z => by cases z⟩)
  · exact .inr h
/-- sorted(e, key=lambda x: b): b gives a new pair of ints for each item -/
def tSortLam (K : PySem.W.Frag) (T : List (Addr × Str)) (N : List Str) (js : List Nat) (te tb : TE) : TE := fun σ H Q => te σ H fun x H1 => Tabs T H1 ∧ ∃ (a : Addr) (ns : List Int) (g : Int → Int × Int), x = .ref a ∧ SqL K H1 a (iv ns) ∧ ns.length ≤ 1000 ∧
  (∀ n ∈ ns, ∀ H2 : Hp, ExtN H1 H2 → ∀ Q' : VK, (∀ t H3, Ex H2 H3 → H3 t = some (.tup [.int (g n).1, .int (g n).2]) → Q' (.ref t) H3) → tb (startF N [.int n] (js.map (slotAt σ))) H2 Q') ∧
  ∀ (p : Addr) (H2 : Hp) (ns' : List Int), ExtN H1 H2 → Tabs T H2 → H2 p = some (.lst (iv ns')) → ns'.Perm ns → ns'.Pairwise (fun m n => lexLt itemOrd (kl (g n)) (kl (g m)) = false) → Q (.ref p) H2
section
variable {X : Cx}
/-- what is known between two turns of the keys' loop -/
structure Mid (X : Cx) (pins : List (Addr × Obj)) (σ : L2.St) (H2 : Hp) (D kS f : Addr) (fo : Obj) (e1 : Nat) (ns : List Int) (g : Int → Int × Int) (i : Nat) (s' : Shared) (H' : Hp) (kA : Array Value) (e : Nat) (ts : List Addr) : Prop where
  inv : Inv X pins σ H' s'
  ext : Ex H2 H'
  hD : s'.heap.get? D = some (seqObj "list" #[] e1)
  nD : H' D = none
  hk : s'.heap.get? kS = some (seqObj "list" kA e)
  nk : H' kS = none
  hf : s'.heap.get? f = some fo
  nf : H' f = none
  ek : kA.toList = ts.map Value.ref
  el : ts.length = i
  at_ : ∀ (j : Nat) (t : Addr) (n : Int), ts[j]? = some t → ns[j]? = some n → H' t = some (.tup [.int (g n).1, .int (g n).2])
theorem pe_sortedLam {e : Expr} {te tb : TE} {params : Arguments} {body : Expr} {scope : Scope} {p pos lpos kpos : Pos} {T : List (Addr × Str)} {c P : Addr} {N fr : List Str} {x : Str} {js : List Nat} {k : Nat} (hg : Gl X "sorted") (hm : X.mg "sorted" = none) (ha : PA X [e] (tCons te tNil))
    (TB : TabB X.base X.mg c P) (hcode : X.env.code = .ref c) (hT : (P, X.env.qual ++ "<lambda>") ∈ T) (hu : ∀ p ∈ T, p.1 = P → p.2 = X.env.qual ++ "<lambda>") (hdef : defaultsOf params X.env = ([], [])) (S : NScope N [x] fr scope)
    (hfree : ∀ y ∈ scope.names, y.2 = .free → X.env.scope.names.lookup y.1 = some .cell ∨ X.env.scope.names.lookup y.1 = some .free) (hfr : ∀ y ∈ fr, (y, NameKind.free) ∈ scope.names) (hjs : js.map (fun j => X.N[j]?) = fr.map some)
    (hb : ∀ (qual : Str) (cl : List (Str × Addr)) (pm cdv ctv u : Value), bindArgs (PySem.W.kla_fn "<lambda>" qual params body scope cl pm cdv ctv) ⟨[u], []⟩ = pure [(x, u)]) (hr : Room (k + 3) X.A)
    (hbody : ∀ (F : NF) (f : Addr) (A : Around) (outer : List Env) (s : Shared) (H : Hp), F.scope = scope → PE (ncx CX0 X.prog X.w X.K X.mg X.base N F f A outer s H E0) body tb)
    (hst : backTo pos (starEach [e] X.env) = (false, eval e X.env) :: backTo pos (starEach [] X.env) := by rfl) (hpl : (backTo pos (starEach [e] X.env)).any (·.1) = false := by rfl) :
    PE X (.Call (.Name "sorted" p) [e] [⟨some "key", .Lambda params body scope lpos, kpos⟩] pos) (tSortLam X.K T N js te tb) := by
  refine ⟨fun pins s σ H Q I h => ?_⟩
  refine wpAny_Call_Name_kw (ld_blt I hg hm boot_sorted ?_)
  refine PyProof.Rows.callWith_kw (thn (ha.run pos pins s σ H (fun vs H1 => match vs with
    | [x] => Tabs T H1 ∧ ∃ (a : Addr) (ns : List Int) (g : Int → Int × Int), x = .ref a ∧ SqL X.K H1 a (iv ns) ∧ ns.length ≤ 1000 ∧
      (∀ n ∈ ns, ∀ H2 : Hp, ExtN H1 H2 → ∀ Q' : VK, (∀ t H3, Ex H2 H3 → H3 t = some (.tup [.int (g n).1, .int (g n).2]) → Q' (.ref t) H3) → tb (startF N [.int n] (js.map (slotAt σ))) H2 Q') ∧
      ∀ (p : Addr) (H2 : Hp) (ns' : List Int), ExtN H1 H2 → Tabs T H2 → H2 p = some (.lst (iv ns')) → ns'.Perm ns → ns'.Pairwise (fun m n => lexLt itemOrd (kl (g n)) (kl (g m)) = false) → Q (.ref p) H2
    | _ => False) I h) fun us s1 ⟨vs, H1, I1, r1, q1⟩ => ?_) hst hpl rfl rfl
  obtain ⟨y, rfl⟩ : ∃ y, vs = [y] := by
    match vs, q1 with
    | [y], _ => exact ⟨y, rfl⟩
  obtain ⟨hT1, a, ns, g, rfl, hs, hl, hbt, q⟩ := q1
  obtain rfl := Vals.ref1 r1
  have hfree' : ∀ y ∈ scope.names, y.2 = .free → ∃ c, X.env.cells.lookup y.1 = some c := fun y hy e => (hfree y hy e).elim (fun z => I1.ok.has _ (.inl z)) fun z => I1.ok.has _ (.inr z)
  show wpAny _ _ (evalAll ((do let v ← eval (.Lambda params body scope lpos) X.env; standAt pos; pure v) :: [])) _ _ s1
  refine wpAny_evalAll_cons (wpAny_bind (lam_make2 I1 TB hcode hT hu hT1 hdef hfree' fun f c' pm ctv H2 s2 I2 ex tabs hf nf nfr hcc => wpAny_bind (wpAny_standAt (wpAny_pure ?_))))
  refine wpAny_evalAll_nil ?_
  show wpAny (model X.prog X.w) X.A (call (.builtin "sorted") [.ref a] [(Str.ofString "key", .ref f)]) (EP X pins σ Q) X.xe s2
  have hs2 := sq_extN ex hs
  obtain ⟨its, rv, hls, hz⟩ := I2.list hs2
  have hil : its.length = ns.length := by rw [← rv.length, iv, List.length_map]
  have hcl : X.calm = true ∨ True := .inr trivial
  generalize hfo : PySem.W.kla_obj "<lambda>" (X.env.qual ++ "<lambda>") params body scope (cloFrom X.env.cells scope.names []) pm c' ctv = fo at hf
  -- the frames are none of the new objects
  have nofr : ∀ b, s2.heap.objs.size ≤ b → b ∉ frs X.stack := fun b hb z => by
    rcases List.mem_cons.mp (I2.stkSub _ z) with e | e
    · have h1 := I2.lt
      rw [← e] at h1
      exact Nat.lt_irrefl _ (Nat.lt_of_lt_of_le h1 hb)
    · exact I2.nofs hb e
  refine call_function_entry_kw kind_sorted plain_sorted entry_sorted (ksk_s1 _ _) ?_
  unfold Builtin.«sorted»
  refine wpAny_bind (m := checkCount "sorted" 1 1 _) (wpAny_pure ?_)
  refine wpAny_bind (collect_list hls.isList ?_ (by rw [sizeLine_eq]; omega))
  refine wpAny_bind (wpAny_newList ?_ (by rw [sizeLine_eq]; omega))
  have hsz : ((s2.heap.push (seqObj "list" #[] 0)).update s2.heap.objs.size (Obj.mapSeq (· ++ its.toArray))).objs.size = s2.heap.objs.size + 1 := by rw [Heap.size_update, size_push']
  have hoL : (((s2.heap.push (seqObj "list" #[] 0)).update s2.heap.objs.size (Obj.mapSeq (· ++ its.toArray))).push (seqObj "list" its.toArray 0)).get? (s2.heap.objs.size + 1) = some (seqObj "list" its.toArray 0) := by
    rw [← hsz]
    exact Heap.get?_push_size _ rfl
  have keepA : ∀ b o, s2.heap.get? b = some o → (((s2.heap.push (seqObj "list" #[] 0)).update s2.heap.objs.size (Obj.mapSeq (· ++ its.toArray))).push (seqObj "list" its.toArray 0)).get? b = some o := fun b o q => by
    have hlt : b < s2.heap.objs.size := Heap.lt_size q
    refine Heap.get?_push_of_some _ ?_
    rw [Heap.get?_update_ne _ _ _ _ (Nat.ne_of_lt hlt)]
    exact Heap.get?_push_of_some _ q
  show wpAny _ _ _ _ _ { s2 with heap := ((s2.heap.push (seqObj "list" #[] 0)).update s2.heap.objs.size (Obj.mapSeq (· ++ its.toArray))).push (seqObj "list" its.toArray 0) }
  rw [hsz]
  have hAsz : (((s2.heap.push (seqObj "list" #[] 0)).update s2.heap.objs.size (Obj.mapSeq (· ++ its.toArray))).push (seqObj "list" its.toArray 0)).objs.size = s2.heap.objs.size + 2 := by rw [size_push', hsz]
  generalize ((s2.heap.push (seqObj "list" #[] 0)).update s2.heap.objs.size (Obj.mapSeq (· ++ its.toArray))).push (seqObj "list" its.toArray 0) = hA at hoL keepA hAsz ⊢
  have hDn : s2.heap.objs.size ≤ s2.heap.objs.size + 1 := Nat.le_succ _
  generalize hDD : s2.heap.objs.size + 1 = D at hoL hDn ⊢
  refine wpAny_bind (wpAny_holding (wpAny_call_entry_kw slot_list_sort ⟨_, hoL, rfl⟩ entry_list_sort ?body (ksk_l1 _ _)))
  show wpAny (model X.prog X.w) X.A.in1.in1 (Builtin.«list.sort» ⟨[.ref D], [(Str.ofString "key", .ref f)]⟩) _ _ _
  rw [ksk_t1]
  unfold ksk_tree
  obtain ⟨e1, ho1⟩ : ∃ e1, (hA.update D (Obj.mapSeq fun _ => (#[] : Array Value))).get? D = some (seqObj "list" #[] e1) := ⟨_, get?_update_seq hoL fun _ => #[]⟩
  refine wpAny_bind (listItems_at hoL rfl ?_)
  refine wpAny_bind (listUpdate_at hoL rfl ?_ (by rw [List.size_toArray, sizeLine_eq]; omega) (Nat.zero_le _))
  refine wpAny_bind (seqEpoch_at ho1 rfl ?_)
  refine wpAny_bind (wpAny_newTuple ?_ (by show its.length ≤ _; rw [sizeLine_eq]; omega))
  refine wpAny_bind (wpAny_newList ?_ (Nat.zero_le _))
  refine wpAny_holding ?_
  have keep6 : ∀ b o, s2.heap.get? b = some o → (((hA.update D (Obj.mapSeq fun _ => (#[] : Array Value))).push (seqObj "tuple" its.toArray 0)).push (seqObj "list" #[] 0)).get? b = some o := fun b o q => by
    refine Heap.get?_push_of_some _ (Heap.get?_push_of_some _ ?_)
    have hbD : b ≠ D := Nat.ne_of_lt (Nat.lt_of_lt_of_le (Heap.lt_size q) hDn)
    rw [Heap.get?_update_ne _ _ _ _ hbD]
    exact keepA b o q
  have hD6 : (((hA.update D (Obj.mapSeq fun _ => (#[] : Array Value))).push (seqObj "tuple" its.toArray 0)).push (seqObj "list" #[] 0)).get? D = some (seqObj "list" #[] e1) := Heap.get?_push_of_some _ (Heap.get?_push_of_some _ ho1)
  have hk6 : (((hA.update D (Obj.mapSeq fun _ => (#[] : Array Value))).push (seqObj "tuple" its.toArray 0)).push (seqObj "list" #[] 0)).get? ((hA.update D (Obj.mapSeq fun _ => (#[] : Array Value))).push (seqObj "tuple" its.toArray 0)).objs.size = some (seqObj "list" #[] 0) := Heap.get?_push_size _ rfl
  have hkn : s2.heap.objs.size ≤ ((hA.update D (Obj.mapSeq fun _ => (#[] : Array Value))).push (seqObj "tuple" its.toArray 0)).objs.size := by rw [size_push', Heap.size_update]; omega
  have hkD : ((hA.update D (Obj.mapSeq fun _ => (#[] : Array Value))).push (seqObj "tuple" its.toArray 0)).objs.size ≠ D := by rw [size_push', Heap.size_update]; omega
  show wpAny (model X.prog X.w) X.A.in1.in1 (ksk_rest D (.ref f) false its.toArray e1 (.ref ((hA.update D (Obj.mapSeq fun _ => (#[] : Array Value))).push (seqObj "tuple" its.toArray 0)).objs.size)) _ _ { s2 with heap := ((hA.update D (Obj.mapSeq fun _ => (#[] : Array Value))).push (seqObj "tuple" its.toArray 0)).push (seqObj "list" #[] 0) }
  generalize ((hA.update D (Obj.mapSeq fun _ => (#[] : Array Value))).push (seqObj "tuple" its.toArray 0)).push (seqObj "list" #[] 0) = h6 at keep6 hD6 hk6 ⊢
  generalize ((hA.update D (Obj.mapSeq fun _ => (#[] : Array Value))).push (seqObj "tuple" its.toArray 0)).objs.size = kS at hk6 hkn hkD ⊢
  have nD2 : H2 D = none := I2.hok.fresh hDn
  have nk2 : H2 kS = none := I2.hok.fresh hkn
  have I6 : Inv X pins σ H2 { s2 with heap := h6 } := I2.kept (t' := s2.toks) keep6
  unfold ksk_rest
  refine wpAny_bind (wpAny_rule ?_)
  first
    | rw [List.forIn_toArray]
    | (rw [← Array.forIn_toList]; simp only [List.toList_toArray])
    | rw [← Array.forIn_toList]
  refine wpAny_bind (ksk_fold (fun i s' => ∃ H' kA e ts, Mid X pins σ H2 D kS f fo e1 ns g i s' H' kA e ts) its 0 { s2 with heap := h6 } ⟨H2, #[], 0, [], I6, Ex.refl _, hD6, nD2, hk6, nk2, keep6 _ _ hf, nf, rfl, rfl, fun j t n hj => by simp at hj⟩ ?step ?done)
  case step =>
    rintro j x' s' hx ⟨H', kA, e', ts, M⟩
    simp only [Nat.zero_add] at M ⊢
    have hj : j < ns.length := by have := (List.getElem?_eq_some_iff.mp hx).1; omega
    obtain ⟨n, hn⟩ : ∃ n, ns[j]? = some n := ⟨_, List.getElem?_eq_getElem hj⟩
    obtain ⟨u, hu, ru⟩ := rv.get (i := j) (x := .int n) (by rw [iv, List.getElem?_map, hn]; rfl)
    rw [hx] at hu
    cases hu
    have hcap : Caps X (cloFrom X.env.cells scope.names []) fr js := Caps.made M.inv.ok hfree hfr hjs
    have hcc' : H' c' = some (CodeO c' (X.env.qual ++ "<lambda>")) := M.ext _ _ hcc
    have rc : codeAny (model X.prog X.w) X.A.in1.in1 (.call (.ref f) ⟨[x'], []⟩) (CR CX0 X.stack X.prog X.w H' s' (fun v H3 => ∃ t, v = .ref t ∧ Ex H' H3 ∧ H3 t = some (.tup [.int (g n).1, .int (g n).2])) E0) s' := by
      refine lam_run (k := k) (F := ⟨"<lambda>", X.env.qual ++ "<lambda>", params, [], scope, cloFrom X.env.cells scope.names [], c'⟩) (N := N) (ps := [x]) (fr := fr) (vs := [.int n]) (ws := js.map (slotAt σ)) (tb := tb) S (by rw [hfo]; exact M.hf) (hb _ _ _ _ _ _) hr.in1.in1 M.inv.env0.in1.in1 hcc' (cells_of M.inv hcap) rfl (.cons ru .nil) (fun _ => hbody _ _ _ _ _ _ rfl) ?_
      exact hbt n (List.mem_of_getElem? hn) H' (ex.trans (ExtN.of M.ext)) _ fun t H3 e3 h3 => ⟨t, rfl, e3, h3⟩
    have kz : kA.size ≤ 1000 := by
      have h1 : kA.toList.length = ts.length := by rw [M.ek, List.length_map]
      rw [Array.length_toList, M.el] at h1
      omega
    refine wpAny_bind (wpAny_attempt (wpAny_call (codeAny_mono rc fun r s'' hq => ?_)))
    cases r with
    | error e2 => exact False.elim hq
    | ok fl =>
      cases fl with
      | next => exact False.elim hq
      | brk => exact False.elim hq
      | cont => exact False.elim hq
      | ret u =>
        obtain ⟨v, H3, os, bare, un, hok3, rr, t, rfl, e3, h3⟩ := hq
        obtain rfl : u = Value.ref t := rr
        obtain ⟨v3, H3', I3, _, ev, eH⟩ := M.inv.after (Q := fun v' H3' => v' = V.ref t ∧ H3' = H3) ⟨.ref t, H3, os, bare, un, hok3, rfl, rfl, rfl⟩
        subst eH
        have hD3 := un.keep D _ M.hD M.nD (nofr D hDn) (by simp)
        have hk3 := un.keep kS _ M.hk M.nk (nofr kS hkn) (by simp)
        have hf3 := un.keep f _ M.hf M.nf nfr (by simp)
        have nD3 := un.free D _ M.hD M.nD (by simp)
        have nk3 := un.free kS _ M.hk M.nk (by simp)
        have nf3 := un.free f _ M.hf M.nf (by simp)
        show wpAny (model X.prog X.w) X.A.in1.in1 (Builtin.List.listUpdate (.ref kS) (·.push (.ref t)) >>= fun _ => pure (ForInStep.yield PUnit.unit)) _ _ s''
        have sb := Heap.SameBut.update s''.heap kS (Obj.mapSeq (·.push (.ref t)))
        obtain ⟨c2, hc2⟩ : ∃ c2, (s''.heap.update kS (Obj.mapSeq (·.push (.ref t)))).get? kS = some (seqObj "list" (kA.push (.ref t)) c2) := ⟨_, get?_update_seq hk3 (·.push (.ref t))⟩
        refine wpAny_bind (listUpdate_at hk3 rfl ?_ (by rw [sizeLine_eq]; omega) (Nat.le_trans (Nat.le_of_eq (Array.size_push ..)) (by rw [sizeLine_eq]; omega)))
        obtain ⟨_, fp2, fp3, fp4, fp5, fp6⟩ := I2.fpOk (H' := H3') hkn nk3
        have I4 : Inv X pins σ H3' { s'' with heap := s''.heap.update kS (Obj.mapSeq (·.push (.ref t))) } := I3.turned (t' := s''.toks) (it := kS) (fun b o hb e => (sb.2 b hb).trans e) nk3 fp2 fp4 fp5 fp6
        have nfk : f ≠ kS := fun z => by
          have h1 := Heap.lt_size hf
          rw [z] at h1
          exact Nat.lt_irrefl _ (Nat.lt_of_lt_of_le h1 hkn)
        refine wpAny_pure ⟨rfl, H3', kA.push (.ref t), c2, ts ++ [t], I4, M.ext.trans e3, (sb.2 D hkD.symm).trans hD3, nD3, hc2, nk3, (sb.2 f nfk).trans hf3, nf3, by rw [Array.toList_push, M.ek, List.map_append]; rfl, by rw [List.length_append, M.el]; rfl, fun i t' n' hi hn' => ?_⟩
        by_cases hlt : i < ts.length
        · rw [List.getElem?_append_left hlt] at hi
          exact e3 _ _ (M.at_ i t' n' hi hn')
        · rw [List.getElem?_append_right (by omega)] at hi
          have h0 : i - ts.length = 0 := by
            have := (List.getElem?_eq_some_iff.mp hi).1
            simp at this
            omega
          rw [h0] at hi
          cases hi
          have hij : i = j := by have := M.el; omega
          subst hij
          rw [hn] at hn'
          cases hn'
          exact h3
  case done =>
    rintro s' ⟨H', kA, e', ts, M⟩
    have el : ts.length = ns.length := by have := M.el; omega
    have hka : kA.size = its.length := by
      have h1 : kA.toList.length = ts.length := by rw [M.ek, List.length_map]
      rw [Array.length_toList] at h1
      omega
    have tin : ∀ (j : Nat) (t : Addr) (n : Int), ts[j]? = some t → ns[j]? = some n → ∃ (o : Obj) (xs : List Value) (m : Nat), s'.heap.get? t = some o ∧ o.cls = .type "tuple" ∧ o.data = .seq xs.toArray m ∧ Vals ([(g n).1, (g n).2].map V.int) xs := fun j t n hj hn =>
      tup_at (l := [(g n).1, (g n).2]) M.inv.hok (M.at_ j t n hj hn)
    have hkey : ∀ (j : Nat) (t : Addr) (n : Int), ts[j]? = some t → ns[j]? = some n → G.tupKeyC s'.heap (fun _ => false) (.ref t) = some (kl (g n)) := fun j t n hj hn => by
      obtain ⟨o, xs, m, a1, a2, a3, a4⟩ := tin j t n hj hn
      exact tup_keyC (l := [(g n).1, (g n).2]) a1 a2 a3 a4
    obtain ⟨fs, tfs⟩ := tups_of (h := s'.heap) (ts.zip (ns.map fun n => [(g n).1, (g n).2])) fun z hzm => by
      obtain ⟨j, hj⟩ := List.mem_iff_getElem?.mp hzm
      obtain ⟨a1, a2⟩ := List.getElem?_zip_eq_some.mp hj
      rw [List.getElem?_map] at a2
      cases hn : ns[j]? with
      | none => rw [hn] at a2; cases a2
      | some n =>
        rw [hn] at a2
        have e2 : z.2 = [(g n).1, (g n).2] := (Option.some.inj a2).symm
        obtain ⟨o, xs, m, b1, b2, b3, b4⟩ := tin j z.1 n a1 hn
        refine ⟨by rw [e2]; exact Nat.le_succ _, o, xs, m, b1, b2, b3, ?_⟩
        rw [e2]
        exact b4
    have ezip : (ts.zip (ns.map fun n => [(g n).1, (g n).2])).map (fun z => Value.ref z.1) = kA.toList := by
      rw [M.ek]
      have e3 : (ts.zip (ns.map fun n => [(g n).1, (g n).2])).map (fun z => Value.ref z.1) = ((ts.zip (ns.map fun n => [(g n).1, (g n).2])).map Prod.fst).map Value.ref := by rw [List.map_map]; rfl
      rw [e3, List.map_fst_zip (by rw [List.length_map]; omega)]
    rw [ezip] at tfs
    refine wpAny_bind (listItems_at M.hk rfl ?_)
    refine end_tups M.hD M.hk hkD hka (by omega) tfs (fun v hv => ?_) fun arr hp hsr => ?_
    · rw [M.ek] at hv
      obtain ⟨t, ht, rfl⟩ := List.mem_map.mp hv
      obtain ⟨j, hj⟩ := List.mem_iff_getElem?.mp ht
      have hjl : j < ns.length := by have := (List.getElem?_eq_some_iff.mp hj).1; omega
      exact ⟨_, hkey j t _ hj (List.getElem?_eq_getElem hjl)⟩
    · obtain ⟨ns', vr, pm', pw⟩ := keyed_out M.ek el rv hkey hp hsr
      refine ⟨_, rfl, wpAny_pure ⟨_, rfl, ?_⟩⟩
      generalize arr.map (fun x : Keyed => x.2) = out at vr ⊢
      have sb1 := Heap.SameBut.update s'.heap kS (Obj.mapSeq fun _ => (#[] : Array Value))
      have na1 : (s'.heap.update kS (Obj.mapSeq fun _ => (#[] : Array Value))).get? D = some (seqObj "list" #[] e1) := (sb1.2 D hkD.symm).trans M.hD
      have sb2 := Heap.SameBut.update (s'.heap.update kS (Obj.mapSeq fun _ => (#[] : Array Value))) D (Obj.mapSeq fun _ => out)
      obtain ⟨c2, hc2⟩ : ∃ c2, (endHeap s'.heap kS D (out)).get? D = some (seqObj "list" (out) c2) := ⟨_, get?_update_seq na1 fun _ => out⟩
      obtain ⟨_, fp2, fp3, fp4, fp5, fp6⟩ := I2.fpOk (H' := H') hkn M.nk
      have I4 : Inv X pins σ H' { s' with heap := s'.heap.update kS (Obj.mapSeq fun _ => (#[] : Array Value)) } := M.inv.turned (t' := s'.toks) (it := kS) (fun b o hb e => (sb1.2 b hb).trans e) M.nk fp2 fp4 fp5 fp6
      have I5 : Inv X pins σ (upd H' D (.lst (iv ns'))) { s' with heap := endHeap s'.heap kS D (out) } := I4.take (h' := endHeap s'.heap kS D (out)) (t' := s'.toks) (fun b o hb e => (sb2.2 b hb).trans e) (I2.fpOk hDn M.nD) ⟨by rw [iv, List.length_map, pm'.length_eq, sizeLine_eq]; omega, _, c2, vr, by rw [Array.toArray_toList]; exact hc2⟩
      refine ⟨.ref D, _, I5, rfl, q D _ ns' (ex.trans (ExtN.of (M.ext.trans (Ex.new M.nD)))) ((tabs.ext M.ext).ext (Ex.new M.nD)) upd_same pm' pw⟩
end
end Sh
/-! the end of a row that compares a def of one list of ints with a function, where defs make lambdas: cs tells their code objects and tables -/
namespace Sh
open PySem PySem.Spec PyProof.Rows L2 Evl LamX NdefX
open PySem.W (WData Codec OpenSpec)
theorem spec_callT {P : Program} {w : World} {K : PySem.W.Frag} {mg mb : Str → Option Value} {k : Nat} {fa : Addr} {cs : List (Addr × Addr)} {fd : FuncData} {x : Str} {sp : Sp} {s₁ : Shared} {vals : List Value} {ns : List Int} {R : PySem.W.WRecords} {cl : Str → Option Addr} {d0 : WData}
    (KX : K.In s₁.heap) (hns : s₁.heap.Ns mainGlobals mg) (hb : s₁.heap.Ns builtinsNs mb) (hbb : ∀ x : Str, x ≠ "__name__" → mb x = bootBuiltins x) (hlim : s₁.heap.NoLimit) (hg : s₁.gens = #[])
    (hT : ∀ p ∈ cs, s₁.heap.get? p.2 = some { cls := .none, data := .fields #[] }) (nT : ∀ p ∈ cs, K.lookup p.2 = none) (C : ∀ p ∈ cs, PySem.W.CodeHd s₁.heap p.1 p.2)
    (hbm : ∃ (bm : Addr) (ob : Obj), mg "__builtins__" = some (.ref bm) ∧ bm ≠ builtinsNs ∧ s₁.heap.get? bm = some ob ∧ ob.cls = .type "module" ∧ ob.dict = some builtinsNs ∧ ob.data = .plain)
    (hwl : PySem.W.WellAll w.params s₁.heap vals [.list (ns.map .int)]) (hwt : (WData.list (ns.map .int)).weight ≤ 1048576) (hr : Room k callerA)
    (F : ∀ base : Heap, K.In base → base.Ns mainGlobals mg → (∀ p ∈ cs, TabB base mg p.1 p.2) → FnOk P w K mg base CX0 k fa fd [x] sp) (hbind : ∀ (s : Shared) (u : Value), BindsTo s fd ⟨[u], []⟩ [(x, u)])
    (hsp : ∀ (H : Hp) (a : Addr), (∀ p ∈ cs, H p.2 = some (.tbl #[])) → SqL K H a (ns.map V.int) → sp [.ref a] H (fun v H' => Dw K H' v d0) fun _ _ _ => False) :
    codeAny (model P w) callerA (.call (.ref fa) ⟨vals, []⟩) (fun r s' => ∃ u as, r = .ok (.ret u) ∧ PySem.W.ReadsW R cl s'.heap u d0 as ∧ OldK s₁.heap s'.heap ∧ s'.os = s₁.os ∧ AllBare s'.gens) s₁ := by
  have hpl : plWs [WData.list (ns.map .int)] = true := by
    have : ∀ l : List Int, plWs (l.map WData.int) = true := fun l => by
      induction l with
      | nil => rfl
      | cons n l ih => exact ih
    show (plW (.list (ns.map .int)) && plWs []) = true
    exact Bool.and_eq_true_iff.mpr ⟨this ns, rfl⟩
  obtain ⟨A, ho, ar⟩ := area_all _ vals hwl hpl (fun d hd => by rw [List.mem_singleton.mp hd]; exact hwt)
  have hok0 : HOk P w (argH K s₁.heap A) s₁.heap := argH_ok ar
  have hO0 : OnlyF (argH K s₁.heap A) := argH_only ar
  have hS0 := dw_all KX ar _ vals hwl hpl ho
  have hV := vals_toV ho
  have isT : ∀ b : Addr, b ∈ cs.map (·.2) → s₁.heap.get? b = some { cls := .none, data := .fields #[] } := fun b hb => by
    obtain ⟨p, hp, e⟩ := List.mem_map.mp hb
    rw [← e]
    exact hT p hp
  have memT : ∀ p ∈ cs, p.2 ∈ cs.map (·.2) := fun p hp => List.mem_map.mpr ⟨p, hp, rfl⟩
  have argSeq : ∀ {b : Addr} {u : HO}, argH K s₁.heap A b = some u → K.lookup b = none ∧ ∃ (o : Obj) (vs : Array Value) (n : Nat), s₁.heap.get? b = some o ∧ o.data = .seq vs n := fun {b u} q => by
    obtain ⟨hk, vs, _, _, ⟨e2, _⟩ | ⟨e2, _⟩⟩ := argH_is ar q
    · exact ⟨hk, _, _, _, e2, rfl⟩
    · exact ⟨hk, _, _, _, e2, rfl⟩
  have argT : ∀ {b : Addr} {u : HO}, argH K s₁.heap A b = some u → b ∉ cs.map (·.2) := fun {b u} q z => by
    obtain ⟨_, o, vs, n, e, d⟩ := argSeq q
    rw [isT b z] at e
    cases e
    cases d
  obtain ⟨a, ea, hS⟩ : ∃ a, vals.map toV = [V.ref a] ∧ SqL K (argH K s₁.heap A) a (ns.map V.int) := by
    generalize vals.map toV = vs at hS0
    cases hS0 with
    | cons h1 h2 =>
      cases h2
      cases h1 with
      | lst hs ha =>
        have e := ints_dw ns _ ha
        subst e
        exact ⟨_, rfl, hs⟩
  rw [ea] at hV
  obtain rfl := Vals.ref1 hV
  -- the arguments locked, the tables known
  have hH : ∀ p ∈ cs, (fun b => if b ∈ cs.map (·.2) then some (HO.tbl #[]) else argH K s₁.heap A b) p.2 = some (.tbl #[]) := fun p hp => if_pos (memT p hp)
  have hup : ∀ b u, argH K s₁.heap A b = some u → (fun b => if b ∈ cs.map (·.2) then some (HO.tbl #[]) else argH K s₁.heap A b) b = some u := fun b u q => (if_neg (argT q)).trans q
  have hS1 : SqL K (fun b => if b ∈ cs.map (·.2) then some (HO.tbl #[]) else argH K s₁.heap A b) a (ns.map V.int) := ex_l hup hS
  have hO : ∀ b, (fun b => if b ∈ cs.map (·.2) then some (HO.tbl #[]) else argH K s₁.heap A b) b = none ∨ b ∈ cs.map (·.2) ∨ ∃ o u, (fun b => if b ∈ cs.map (·.2) then some (HO.tbl #[]) else argH K s₁.heap A b) b = some (.frz o u) := fun b => by
    by_cases hb : b ∈ cs.map (·.2)
    · exact .inr (.inl hb)
    · rcases hO0 b with z | ⟨o, u, z⟩
      · exact .inl ((if_neg hb).trans z)
      · exact .inr (.inr ⟨o, u, (if_neg hb).trans z⟩)
  have hok : HOk P w (fun b => if b ∈ cs.map (·.2) then some (HO.tbl #[]) else argH K s₁.heap A b) s₁.heap := fun b u q => by
    by_cases hb : b ∈ cs.map (·.2)
    · have q' := (if_pos hb).symm.trans q
      cases q'
      exact isT b hb
    · have q' : argH K s₁.heap A b = some u := (if_neg hb).symm.trans q
      have := hok0 b u q'
      obtain ⟨_, vs, _, _, ⟨_, z⟩ | ⟨_, z⟩⟩ := argH_is ar q'
      · subst z
        exact ⟨this.1, this.2⟩
      · subst z
        exact ⟨this.1, this.2⟩
  have hK : ∀ b u, (fun b => if b ∈ cs.map (·.2) then some (HO.tbl #[]) else argH K s₁.heap A b) b = some u → K.lookup b = none := fun b u q => by
    by_cases hb : b ∈ cs.map (·.2)
    · obtain ⟨p, hp, e⟩ := List.mem_map.mp hb
      rw [← e]
      exact nT p hp
    · exact (argSeq ((if_neg hb).symm.trans q)).1
  have noD : ∀ {b : Addr} {o : Obj}, s₁.heap.get? b = some o → (∀ vs n, o.data ≠ .seq vs n) → o.data ≠ .fields #[] → (fun b => if b ∈ cs.map (·.2) then some (HO.tbl #[]) else argH K s₁.heap A b) b = none := fun {b o} e h1 h2 => by
    by_cases hb : b ∈ cs.map (·.2)
    · rw [isT b hb] at e
      cases e
      exact (h2 rfl).elim
    · refine (if_neg hb).trans ?_
      cases q : argH K s₁.heap A b with
      | none => rfl
      | some u =>
        obtain ⟨_, o', vs, n, e', d⟩ := argSeq q
        rw [e] at e'
        cases e'
        exact (h1 _ _ d).elim
  generalize (fun b => if b ∈ cs.map (·.2) then some (HO.tbl #[]) else argH K s₁.heap A b) = H at hH hS1 hO hok hK noD
  have base_of : ∀ {b : Addr} {o : Obj}, s₁.heap.get? b = some o → H b = none → (hidT s₁.heap H).get? b = some o := fun e n => hidT_get e n
  have noA : ∀ {b : Addr} {o : Obj} {es : Array DictEntry} {ep : Nat}, s₁.heap.get? b = some o → o.data = .dict es ep → H b = none := fun {b o es ep} e d => by
    refine noD e (fun vs n z => ?_) fun z => ?_
    · rw [d] at z; cases z
    · rw [d] at z; cases z
  have nsK : ∀ {b : Addr} {m : Str → Option Value}, s₁.heap.Ns b m → (hidT s₁.heap H).Ns b m := fun {b m} ⟨o, es, ep, e, d, r⟩ => ⟨o, es, ep, base_of e (noA e d), d, r⟩
  have hKb : K.In (hidT s₁.heap H) := fun b o e => base_of (KX b o e) (by
    cases q : H b with
    | none => rfl
    | some u =>
      rw [hK b u q] at e
      cases e)
  have hM : L2.Mod K mg (hidT s₁.heap H) := ⟨hKb, nsK hns, ⟨mb, nsK hb, hbb⟩, let ⟨mc, h1, h2⟩ := hlim; ⟨mc, nsK h1, h2⟩⟩
  have TB : ∀ p ∈ cs, TabB (hidT s₁.heap H) mg p.1 p.2 := fun p hp => by
    have hTp := hT p hp
    refine ⟨?_, ?_, fun z => ?_⟩
    · obtain ⟨o, us, file, tf, flags, tg, inF, text, tt, e1, r1, r2, r3, r4, r5, r6, r7, r8, hne⟩ := C p hp
      refine ⟨o, us, file, tf, flags, tg, inF, text, tt, base_of e1 (noD e1 (fun vs n z => ?_) fun z => ?_), r1, r2, r3, r4, r5, r6, r7, r8, hne⟩
      · rw [r2] at z; cases z
      · rw [r2] at z
        cases z
        simp at r3
    · obtain ⟨bm, ob, b1, b2, b3, b4, b5, b6⟩ := hbm
      have nG : bm ≠ mainGlobals := fun q => by
        obtain ⟨o, es, ep, e, hd, _⟩ := hns
        rw [q, e] at b3
        cases b3
        rw [hd] at b6
        cases b6
      have nP : bm ≠ p.2 := fun q => by
        rw [q, hTp] at b3
        cases b3
        cases b6
      refine ⟨bm, ob, b1, b2, nG, nP, base_of b3 (noD b3 (fun vs n z => ?_) fun z => ?_), b4, b5, b6⟩
      · rw [b6] at z; cases z
      · rw [b6] at z; cases z
    · obtain ⟨o, es, ep, e, hd, _⟩ := hns
      rw [z, hTp] at e
      cases e
      cases hd
  have e0 : Env0 P w K mg (hidT s₁.heap H) callerA [] s₁ H := ⟨rfl, hM, fun b o e => of_hidT e, Nat.le_of_eq (hidT_size _ _), trivial, fun b hb => absurd (show b ∈ ([] : List Addr) from hb) (by simp), hok, .of_eq hg⟩
  refine codeAny_mono ((F _ hKb (nsK hns) TB).run callerA [] s₁ H ⟨[.ref a], []⟩ [.ref a] [.ref a] _ _ hr e0 (hbind s₁ (.ref a)) (.cons rfl .nil) (hsp H a hH hS1)) fun r s' h => ?_
  cases r with
  | error e => exact False.elim h
  | ok fl =>
    cases fl with
    | next => exact False.elim h
    | brk => exact False.elim h
    | cont => exact False.elim h
    | ret u =>
      obtain ⟨v, H', os, bare, un, hok', r', q⟩ := h
      have key : ∀ b o, b ∉ cs.map (·.2) → s₁.heap.get? b = some o → s'.heap.get? b = some o := fun b o nb e => by
        cases q2 : H b with
        | none => exact un.keep b o e q2 (by intro z; exact absurd (show b ∈ ([] : List Addr) from z) (by simp)) (by simp)
        | some u2 =>
          rcases hO b with z | z | ⟨ob, u3, z⟩
          · rw [q2] at z; cases z
          · exact absurd z nb
          · have z2 := un.frzs b ob _ z
            obtain ⟨e1, _⟩ := hok b _ z
            obtain ⟨e2, _⟩ := hok' b _ z2
            rw [e] at e1
            cases e1
            exact e2
      have grown : ∀ p ∈ cs, ∃ more : Array Value, s'.heap.get? p.2 = some { cls := .none, data := .fields more } := fun p hp => by
        obtain ⟨more, z⟩ := un.tbls p.2 #[] (hH p hp)
        exact ⟨_, hok' p.2 _ z⟩
      have KX' : K.In s'.heap := fun b o e => key b o (fun z => by
        obtain ⟨p, hp, ep⟩ := List.mem_map.mp z
        rw [← ep, nT p hp] at e
        cases e) (KX b o e)
      obtain ⟨as, hrd⟩ := Dw.reads (R := R) (cl := cl) hok' KX' d0 v u q r'
      refine ⟨u, as, rfl, hrd, ⟨fun b o e => ?_, fun b o e => ?_⟩, os, bare⟩
      · by_cases hb : b ∈ cs.map (·.2)
        · obtain ⟨p, hp, ep⟩ := List.mem_map.mp hb
          obtain ⟨more, hm⟩ := grown p hp
          rw [← ep] at e ⊢
          rw [hT p hp] at e
          cases e
          exact .inr (.inl ⟨((C p hp).tab (hT p hp)).isCodeTable, rfl, #[], more, rfl, by rw [Array.empty_append]; exact hm⟩)
        · exact .inl (key b o hb e)
      · by_cases hb : b ∈ cs.map (·.2)
        · obtain ⟨p, hp, ep⟩ := List.mem_map.mp hb
          obtain ⟨more, hm⟩ := grown p hp
          rw [← ep]
          exact ⟨_, hm⟩
        · exact ⟨o, key b o hb e⟩
/-- the goal that the head leaves, from the promise of the row's def -/
theorem walk_specT {r : OpenSpec} {k lo hi : Nat} {l1 l2 : Int} {q : Program} {loose : List Str} {XP : (Str → Option Value) → Heap → Prop} {YP : World → Heap → Prop} {d : DefRec} {K : Params → PySem.W.Frag} {x : Str}
    (hargs : r.args = [.list lo hi (.int l1 l2)]) (hwell : r.wellSaid = true) (hr : Room k callerA) (hY : ∀ (w : World) (h : Heap), YP w h → (K w.params).In h)
    (F : ∀ (w : World) (mg mb : Str → Option Value) (mean : ExcName → Option Value) (fa : Addr) (h : Heap), YP w h → (K w.params).In h → Top q (PySem.W.looseW q loose) mean mg mb h → mg d.name = some (.ref fa) →
      ∃ (fd : FuncData) (cs : List (Addr × Addr)) (sp : Sp), (∀ p ∈ cs, h.get? p.2 = some { cls := .none, data := .fields #[] }) ∧ (∀ p ∈ cs, (K w.params).lookup p.2 = none) ∧ (∀ p ∈ cs, PySem.W.CodeHd h p.1 p.2) ∧ (∀ (s : Shared) (u : Value), BindsTo s fd ⟨[u], []⟩ [(x, u)]) ∧
        (∀ (H : Hp) (a : Addr) (b : Codec.denoteAll r.args) (ns : List Int), Codec.encAll r.args b = [.list (ns.map .int)] → Codec.withinAll r.args b = true → Codec.app r.args r.asked b = true → (∀ p ∈ cs, H p.2 = some (.tbl #[])) → SqL (K w.params) H a (ns.map V.int) →
          sp [.ref a] H (fun v H' => Dw (K w.params) H' v (r.ret.enc (Codec.app r.args r.f b))) fun _ _ _ => False) ∧
        ∀ base : Heap, (K w.params).In base → base.Ns mainGlobals mg → (∀ p ∈ cs, TabB base mg p.1 p.2) → FnOk r.prog w (K w.params) mg base CX0 k fa fd [x] sp) :
    PySem.W.WalkOS q loose XP YP r d [] (fun f vs => PySem.call f vs) := by
  intro w s₀ s₁ mg mb G Y fa o pm cd doc dV kV ho hd hcd hD hmg hg args vals as hpre hlay hrd hwl hlo
  obtain ⟨b, e1, e2⟩ := PySem.W.os_pre_some hpre
  obtain ⟨e3, hwi⟩ := Codec.encAll_of_decAll r.args args b e1
  subst e3
  have KX := hY w _ Y
  obtain ⟨fd, cs, sp, hT, nT, C, hb, hsp, hF⟩ := F w mg mb _ fa _ Y KX G.T hmg
  obtain ⟨ns, en⟩ : ∃ ns : List Int, Codec.encAll r.args b = [.list (ns.map .int)] := by
    clear hsp hF e1 e2 hpre hlay hrd hwl hwi
    revert b
    rw [hargs]
    intro b
    exact ⟨b.1, rfl⟩
  have hwt : (WData.list (ns.map .int)).weight ≤ 1048576 := layable_weight hlay _ (by rw [en]; exact List.mem_singleton.mpr rfl)
  have hwl' := hwl
  rw [en] at hwl'
  refine PySem.W.enter_call (codeAny_mono (spec_callT (R := []) (cl := classAt s₀.heap) (d0 := r.ret.enc (Codec.app r.args r.f b)) KX G.T.g G.T.b G.T.builtins G.T.nolimit hg hT nT C G.T.bmain hwl' hwt hr hF hb (fun H a hH hS => hsp H a b ns en hwi e2 hH hS)) fun r' s' hq => ?_)
  obtain ⟨u, as', rfl, h1, h2, h3, h4⟩ := hq
  exact ⟨.inl ⟨u, _, as', rfl, fun _ => rfl, h1, (OpenSpec.post_iff hwell hwi _ _).mpr rfl, fun z => Bool.noConfusion (show false = true from z)⟩, h2, h3, h4⟩
end Sh
/-! what is asked of the written part, def by def -/
namespace Sh
open PySem PySem.Spec PyProof.Rows L2 Evl LamX NdefX
open PySem.W (nsIn findIn codeIn keepIn isFn)
def DefF (K : PySem.W.Frag) (x : Str) (st : Stmt) : Prop :=
  ∃ (f : Addr) (oc : Value) (od : Option Addr) (kV doc pm : Value) (an : Option Addr) (cdv ct : Value) (osl : Array (Option Value)), nsIn K mainGlobals x = some (some (.ref f)) ∧
    K.lookup f = some ⟨oc, od, .func (PySem.W.fnOf x x (defArgs st) (defBody st) (defScope st) .none kV doc pm an cdv ct), osl⟩ ∧ codeIn K cdv x = true ∧ keepIn K (.ref f) = true
def MethF (K : PySem.W.Frag) (C : Addr) (m qual : Str) (st : Stmt) : Prop :=
  ∃ (f : Addr) (oc : Value) (od : Option Addr) (kV doc pm : Value) (an : Option Addr) (cdv ct : Value) (osl : Array (Option Value)), findIn K (.ref C) m = some (some (.ref f)) ∧ isFn K (.ref f) = true ∧
    K.lookup f = some ⟨oc, od, .func (PySem.W.fnOf m qual (defArgs st) (defBody st) (defScope st) .none kV doc pm an cdv ct), osl⟩ ∧ codeIn K cdv qual = true ∧ keepIn K (.ref f) = true
def IntF (K : PySem.W.Frag) (x : Str) (i : Int) : Prop := ∃ t, nsIn K mainGlobals x = some (some (.int i t))
def TupF (K : PySem.W.Frag) (x : Str) (a : Addr) (l : List Int) : Prop := nsIn K mainGlobals x = some (some (.ref a)) ∧ ∃ (o : Obj) (its : Array Value) (n : Nat), K.lookup a = some o ∧ o.cls = .type "tuple" ∧ o.data = .seq its n ∧ its.size ≤ sizeLine ∧ Vals (iv l) its.toList ∧ o.dict = none
theorem TupF.mk {K : PySem.W.Frag} {x : Str} {a : Addr} {l : List Int} {o : Obj} {its : Array Value} {n : Nat} (t1 : nsIn K mainGlobals x = some (some (.ref a))) (t2 : K.lookup a = some o) (t3 : o.cls = .type "tuple") (t4 : o.data = .seq its n) (t5 : its.size ≤ sizeLine) (t6 : Vals (iv l) its.toList) (t7 : o.dict = none) : TupF K x a l := ⟨t1, o, its, n, t2, t3, t4, t5, t6, t7⟩
theorem IntF.mk {K : PySem.W.Frag} {x : Str} {i : Int} {t : Tok} (t1 : nsIn K mainGlobals x = some (some (.int i t))) : IntF K x i := ⟨t, t1⟩
theorem DefF.mk {K : PySem.W.Frag} {x : Str} {st : Stmt} {f : Addr} {oc : Value} {od : Option Addr} {kV doc pm : Value} {an : Option Addr} {cdv ct : Value} {osl : Array (Option Value)} (t1 : nsIn K mainGlobals x = some (some (.ref f)))
    (t2 : K.lookup f = some ⟨oc, od, .func (PySem.W.fnOf x x (defArgs st) (defBody st) (defScope st) .none kV doc pm an cdv ct), osl⟩) (t3 : codeIn K cdv x = true) (t4 : keepIn K (.ref f) = true) : DefF K x st := ⟨f, oc, od, kV, doc, pm, an, cdv, ct, osl, t1, t2, t3, t4⟩
theorem MethF.mk {K : PySem.W.Frag} {C : Addr} {m qual : Str} {st : Stmt} {f : Addr} {oc : Value} {od : Option Addr} {kV doc pm : Value} {an : Option Addr} {cdv ct : Value} {osl : Array (Option Value)} (t1 : findIn K (.ref C) m = some (some (.ref f))) (t0 : isFn K (.ref f) = true)
    (t2 : K.lookup f = some ⟨oc, od, .func (PySem.W.fnOf m qual (defArgs st) (defBody st) (defScope st) .none kV doc pm an cdv ct), osl⟩) (t3 : codeIn K cdv qual = true) (t4 : keepIn K (.ref f) = true) : MethF K C m qual st := ⟨f, oc, od, kV, doc, pm, an, cdv, ct, osl, t1, t0, t2, t3, t4⟩
/-- arguments meet parameters one by one -/
def BindsOk (x qual : Str) (st : Stmt) (ps : List Str) : Prop := ∀ (kV doc pm : Value) (an : Option Addr) (cdv ct : Value) (us : List Value), us.length = ps.length → bindArgs (PySem.W.fnOf x qual (defArgs st) (defBody st) (defScope st) .none kV doc pm an cdv ct) ⟨us, []⟩ = pure (ps.zip us)
section
variable {K : PySem.W.Frag} {mg : Str → Option Value} {h : Heap}
theorem DefF.has {x : Str} {st : Stmt} {ps : List Str} (d : DefF K x st) (X : K.In h) (G : h.Ns mainGlobals mg) (b : BindsOk x x st ps) : Has K mg x st ps := by
  obtain ⟨f, oc, od, kV, doc, pm, an, cdv, ct, osl, a, l, c, k⟩ := d
  have F := fun_mk (st := st) l c k
  exact ⟨f, _, F, F.binds b, PySem.W.mg_of X G a⟩
theorem MethF.has {C : Addr} {m qual : Str} {st : Stmt} {ps : List Str} (d : MethF K C m qual st) (b : BindsOk m qual st ps) : HasM K C m qual st ps := by
  obtain ⟨f, oc, od, kV, doc, pm, an, cdv, ct, osl, a, i, l, c, k⟩ := d
  have F := fun_mk (st := st) l c k
  exact ⟨f, _, F, F.binds b, ⟨a, i, k⟩⟩
theorem IntF.at_ {x : Str} {i : Int} (d : IntF K x i) (X : K.In h) (G : h.Ns mainGlobals mg) : ∃ t, mg x = some (.int i t) := by
  obtain ⟨t, e⟩ := d
  exact ⟨t, PySem.W.mg_of X G e⟩
theorem TupF.at_ {x : Str} {a : Addr} {l : List Int} (d : TupF K x a l) (X : K.In h) (G : h.Ns mainGlobals mg) : mg x = some (.ref a) := PySem.W.mg_of X G d.1
theorem TupF.sq {x : Str} {a : Addr} {l : List Int} (d : TupF K x a l) (H : Hp) : SqT K H a (iv l) := by
  obtain ⟨_, o, its, n, a, b, c, e, g, _⟩ := d
  exact .inr ⟨o, its, n, a, b, c, e, g⟩
theorem TupF.ob {x : Str} {a : Addr} {l : List Int} (d : TupF K x a l) : ∃ o, K.lookup a = some o ∧ o.cls = .type "tuple" ∧ o.dict = none := by
  obtain ⟨_, o, its, n, a, b, c, e, g, h⟩ := d
  exact ⟨o, a, b, h⟩
end
end Sh
namespace Sh
open PySem PySem.Spec PyProof.Rows L2 Evl
section
variable {X : Cx}
/-! ### xs[i], by values -/
theorem get_list : PGet X (rIxL X.K) := by
  intro pins s σ H x y v u Q I rx ry h
  obtain ⟨p, xs, i, z, rfl, rfl, hq, he, q⟩ := h
  cases rx
  obtain ⟨t, rfl⟩ := ry
  obtain ⟨its, r, pl, hz⟩ := I.list hq
  obtain ⟨j, h1, h2, h3, h4, h5⟩ := atI_get he
  obtain ⟨w, ew, rw'⟩ := r.get h2
  have hl := r.length
  have hn := line63
  have fin : EP X pins σ Q w s := ⟨z, H, I, rw', q⟩
  by_cases h0 : 0 ≤ i
  · have hj : i.toNat = j := by
      rw [seqIndex_of h0 h5] at h1
      exact Option.some.inj h1
    exact wpAny_getItem_list pl.isList h0 (by omega) (by rw [hj]; simpa using ew) fin
  · have hj : (i + (its.toArray.size : Int)).toNat = j := by
      rw [seqIndex_neg (by omega) h4] at h1
      rw [List.size_toArray, ← hl]
      exact Option.some.inj h1
    exact wpAny_getItem_list_neg pl.isList (by omega) (by rw [List.size_toArray] <;> omega) (by omega) (by rw [hj]; simpa using ew) fin
/-! ### xs.extend(t), t a tuple -/
def rExtendT (K : PySem.W.Frag) : V → List V → Hp → VK → Prop := fun x vs H Q => ∃ l b xs zs, x = .ref l ∧ vs = [.ref b] ∧ H l = some (.lst xs) ∧ H b = some (.tup zs) ∧ xs.length + zs.length ≤ sizeLine ∧ Q .non (upd H l (.lst (xs ++ zs)))
theorem mt_extendT : MtM X "list.extend" (rExtendT X.K) := by
  intro pins s σ H x vs v us Q I rx rv h
  obtain ⟨l, b, xs, zs, rfl, rfl, hH, hB, hz, q⟩ := h
  cases rx
  obtain ⟨u, rfl, ru⟩ := rv.one
  cases ru
  obtain ⟨z, its, n, r, hl, e⟩ := I.lstM hH
  obtain ⟨z2, its2, r2, o2, ho2, hc2, n2, hd2⟩ := (show ObjOk X.prog X.w H s.heap b (.tup zs) from I.hok b _ hB)
  have hl2 := r2.length
  have hsz : its.toArray.size + its2.toArray.size ≤ sizeLine := by rw [List.size_toArray, List.size_toArray]; omega
  have hlong : ¬ (!its.toArray.isEmpty && Builtin.List.listTooLong (its.toArray.size + its2.toArray.size)) = true := by
    rw [notLongL hsz, Bool.and_false]
    exact Bool.false_ne_true
  refine wpAny_call_entry PySem.F.slot_list_extend ⟨_, e, rfl⟩ PySem.F.entry_list_extend ?_ (PySem.F.args_list_extend_2 _ _)
  show wpAny _ _ (Builtin.List.listExtendWith (.ref l) (.ref b) .none) _ _ _
  unfold Builtin.List.listExtendWith
  refine wpAny_bind (wpAny_typeOf (T := "tuple") ⟨o2, ho2, hc2⟩ ?_)
  have hif : (Builtin.List.listSameRef (.ref l) (.ref b) || Value.type "tuple" == .type "list" || Value.type "tuple" == .type "tuple") = true := by
    rw [Bool.or_eq_true]
    exact .inr (by decide)
  rw [if_pos hif]
  refine wpAny_bind (listItems_at ho2 hd2 ?_)
  refine wpAny_bind (listItems_at e rfl ?_)
  rw [if_neg hlong]
  refine wpAny_bind (listUpdate_at e rfl ?_ (by rw [List.size_toArray]; omega) (by rw [Array.size_append]; omega))
  refine wpAny_bind (wpAny_pure (wpAny_pure ⟨_, rfl, ?_⟩))
  refine ⟨.non, _, I.lset (t' := s.toks) (its' := its ++ its2) hH e (by simp) (r.append r2) ?_, rfl, q⟩
  rw [List.length_append]
  omega
/-! ### t.index(n), t a tuple of ints -/
theorem mt_tupIndexI : MtR X "tuple.index" (fun x xs H Q => ∃ p, ∃ ys : List Int, ∃ z j, x = .ref p ∧ xs = [.int z] ∧ SqT X.K H p (iv ys) ∧ ys[j]? = some z ∧ (∀ m, m < j → ys[m]? ≠ some z) ∧ Q (.int (j : Nat)) H) := by
  intro pins s σ H x xs v us Q I rx rs h
  obtain ⟨p, ys, z, j, rfl, rfl, hq, hy, hno, q⟩ := h
  cases rx
  obtain ⟨u, rfl, t, rfl⟩ := vals1 rs
  obtain ⟨its, r, pl, hz⟩ := I.tuple hq
  obtain ⟨⟨cls, dd, dt, sl⟩, ho, hc, n, hd⟩ := pl
  simp only at hc hd
  subst hc
  subst hd
  have hl : its.toArray.size = ys.length := by rw [List.size_toArray, ← r.length, List.length_map]
  have hj : j < its.toArray.size := by rw [hl]; exact (List.getElem?_eq_some_iff.mp hy).1
  have at' : ∀ (m : Nat) (hm : m < its.toArray.size), ∃ y t', ys[m]? = some y ∧ its.toArray[m] = Value.int y t' := fun m hm => by
    have hm' : m < ys.length := by rw [← hl]; exact hm
    obtain ⟨w, hw, t', hw'⟩ := r.get (i := m) (x := .int ys[m]) (by simp [hm'])
    refine ⟨ys[m], t', List.getElem?_eq_getElem hm', ?_⟩
    have e := (List.getElem?_eq_some_iff.mp hw).2
    rw [← hw', ← e]
    simp
  have fl : (iv ys).all flatV = true := List.all_eq_true.mpr fun x hx => by
    obtain ⟨i, _, rfl⟩ := List.mem_map.mp hx
    rfl
  refine call_meets PySem.F.slot_tuple_index ⟨_, ho, rfl⟩ PySem.F.entry_tuple_index (PySem.F.args_tuple_index_2 _ _) (TI.tuple_indexAt p its.toArray n dd sl (.int z t) (eqU (.int z)) j hj ?_ ?_)
    ⟨ho, fun w hw => mem_eqAt (x := .int z) ⟨t, rfl⟩ rfl r fl w (by simpa using hw), ⟨.int (j : Nat), H, I.tok _, ⟨_, rfl⟩, q⟩⟩
  · obtain ⟨y, t', h1, h2⟩ := at' j hj
    rw [hy] at h1
    cases h1
    rw [h2]
    show (z == z) = true
    exact beq_self_eq_true z
  · intro m hm hmj
    obtain ⟨y, t', h1, h2⟩ := at' m hm
    rw [h2]
    show (y == z) = false
    exact beq_eq_false_iff_ne.mpr fun e => hno m hmj (e ▸ h1)
/-! ### d.values(), min of these, the values ints -/
def valsO (p d : Addr) : HO := .ext fun h => h.IsValuesView p d
theorem valsO_ok {P : Program} {w : World} {H : Hp} {h : Heap} {p d : Addr} (e : h.get? p = some { cls := .type "dict_values", data := .fields #[.ref d] }) : ObjOk P w H h p (valsO p d) :=
  ⟨⟨_, e, rfl, rfl⟩, ⟨_, e⟩, fun h1 h2 x k => let ⟨o, ho, r⟩ := x; ⟨o, k o ho, r⟩⟩
def rValsK : V → List V → Hp → VK → Prop := fun x xs H Q => ∃ (a : Addr) (kvs : List (L2.Key × V)), x = .ref a ∧ xs = [] ∧ H a = some (.dK kvs) ∧ ∀ p, H p = none → Q (.ref p) (upd H p (valsO p a))
theorem mt_valuesK : MtR X "dict.values" rValsK := by
  intro pins s σ H x xs v us Q I rx rxs h
  obtain ⟨a, kvs, rfl, rfl, ha, q⟩ := h
  cases rx
  cases rxs
  obtain ⟨z, hd, vs, rel, dd⟩ := dk_of I.hok ha
  have hf : H s.heap.objs.size = none := I.hok.fresh (Nat.le_refl _)
  refine call_meetsIn PySem.F.slot_dict_values dd.typeIs PySem.F.entry_dict_values (PySem.F.args_dict_values_1 _) (meets_dict_values (mixKind X.prog X.w) a hd) ⟨⟨vs, dd⟩, ?_⟩
  exact ⟨.ref s.heap.objs.size, upd H s.heap.objs.size (valsO s.heap.objs.size a), I.laid (t' := s.toks) (fun b u e => Heap.get?_push_of_some _ e) (Nat.le_refl _) (valsO_ok (Heap.get?_push_size _ rfl)), rfl, q _ hf⟩
def rMinV : List V → Hp → VK → Prop := fun xs H Q => ∃ (p a : Addr) (kvs : List (L2.Key × V)) (ns : List Int), xs = [.ref p] ∧ H p = some (valsO p a) ∧ H a = some (.dK kvs) ∧ kvs.map Prod.snd = iv ns ∧ 0 < ns.length ∧ ∀ m, m ∈ ns → (∀ y, y ∈ ns → m ≤ y) → Q (.int m) H
theorem cr_minV (hc : X.calm = true) : CallR X (.builtin "min") rMinV := by
  intro pins s σ H xs us Q I rx h
  obtain ⟨p, a, kvs, ns, rfl, hp, ha, hns, hne, q⟩ := h
  rw [Vals.ref1 rx]
  obtain ⟨z, hd, vs, rel, dd⟩ := dk_of I.hok ha
  have hv : s.heap.IsValuesView p a := (show ObjOk X.prog X.w H s.heap p (valsO p a) from I.hok p _ hp).1
  obtain ⟨o, es, ep, ho, hx, hdat, hkn, hpr, hnd⟩ := dd
  have hm : s.heap.DictAt (mixKind X.prog X.w) a vs ep := ⟨o, es, ho, hx, hdat, hkn, hpr, hnd⟩
  have hl : kvs.length = vs.length := rel.length
  have hkl : kvs.length = ns.length := by
    have e := congrArg List.length hns
    rw [List.length_map, iv, List.length_map] at e
    exact e
  have hlt : a < s.heap.objs.size := Heap.lt_size ho
  have hval : ∀ (i : Nat) (v : Value), (∃ k, vs[i]? = some (k, v)) → ∃ t, v = .int (ns.getD i 0) t := fun i v ⟨k, hk⟩ => by
    have hi : i < vs.length := (List.getElem?_eq_some_iff.mp hk).1
    have hi2 : i < kvs.length := by omega
    have hi3 : i < ns.length := by omega
    obtain ⟨u, hu, ru⟩ := kv_get rel (List.getElem?_eq_getElem hi2 : kvs[i]? = some (kvs[i].1, kvs[i].2))
    rw [hk] at hu
    cases hu
    have e2 : kvs[i].2 = V.int ns[i] := by
      have z : (kvs.map Prod.snd)[i]? = (iv ns)[i]? := by rw [hns]
      rw [iv, List.getElem?_map, List.getElem?_map, List.getElem?_eq_getElem hi2, List.getElem?_eq_getElem hi3] at z
      exact Option.some.inj z
    have e3 : ns.getD i 0 = ns[i] := by rw [List.getD_eq_getElem?_getD, List.getElem?_eq_getElem hi3] <;> rfl
    rw [show (kvs.get ⟨i, hi2⟩).snd = V.int ns[i] from e2] at ru
    rw [e3]
    exact ru
  refine call_min_walk (wpAny_pyIter_values (knd := mixKind X.prog X.w) hv hm ?_)
  refine ⟨s.heap.objs.size, [s.heap.objs.size, a], [s.heap.objs.size], vs.length, fun i v => ∃ k, vs[i]? = some (k, v), _, fun i j => decide (ns.getD i 0 < ns.getD j 0), rfl,
    Walks.dictValues (knd := mixKind X.prog X.w) (A := X.A.in1) (show X.A.in1.handled = none from I.ok.hd hc) s.heap.objs.size a (Nat.ne_of_lt hlt) vs ep, ⟨⟨_, Heap.get?_push_size _ rfl, rfl, rfl⟩, hm.push _⟩, fun b hb => ?_, by omega, CmpOf.ints_lt (fun i => ns.getD i 0) hval, fun v h' tk hv' hk => ?_⟩
  · show b < (s.heap.push _).objs.size
    rw [size_push']
    rcases List.mem_cons.mp hb with z | z
    · rw [z]
      exact Nat.lt_succ_self _
    · rw [List.mem_singleton.mp z]
      exact Nat.lt_succ_of_lt hlt
  · obtain ⟨t, rfl⟩ := hval _ _ hv'
    obtain ⟨m1', m2'⟩ := argBest_lt (fun i => ns.getD i 0) (vs.length - 1)
    have m1 : argBest (fun i j => decide (ns.getD i 0 < ns.getD j 0)) (vs.length - 1) ≤ vs.length - 1 := m1'
    have m2 : ∀ j, j ≤ vs.length - 1 → ns.getD (argBest (fun i j => decide (ns.getD i 0 < ns.getD j 0)) (vs.length - 1)) 0 ≤ ns.getD j 0 := m2'
    have hk2 : ∀ b o, s.heap.get? b = some o → h'.get? b = some o := fun b o e => hk b o (fun z => by rw [List.mem_singleton.mp z] at e; exact absurd (Heap.lt_size e) (Nat.lt_irrefl _)) (Heap.get?_push_of_some _ e)
    refine ⟨.int _, H, I.kept (t' := tk) hk2, ⟨t, rfl⟩, q _ (PySem.getD_mem (by omega)) fun y hy => ?_⟩
    obtain ⟨j, hj, e⟩ := List.mem_iff_getElem.mp hy
    have z := m2 j (by omega)
    have e3 : ns.getD j 0 = y := by rw [List.getD_eq_getElem?_getD, List.getElem?_eq_getElem hj, ← e] <;> rfl
    rw [e3] at z
    exact z
end
end Sh
namespace Sh
open PySem PySem.Spec PyProof.Rows L2 Evl
section
variable {K : PySem.W.Frag} {σ : L2.St} {H H' : Hp} {ta tb te tl : TE} {t : TT} {x y z v : V} {D : Ends} {tz : TS}
theorem el_rngF {ta : TA} {j : Nat} {vs : List Nat} {n : Nat} (p : Nat → Bool) (v : Nat → V) (h : EvA ta σ H [ni n]) (hn : n ≤ 40000) (hw : ∀ x, wipe ((wipe σ vs).set j (some x)) vs = wipe σ vs)
    (ht : ∀ i, i < n → EvT t ((wipe σ vs).set j (some (ni i))) H (p i)) (he : ∀ i, i < n → p i = true → Ev te ((wipe σ vs).set j (some (ni i))) H (v i)) : EvL (tLc (iRng1 ta) (gName j) t te vs) σ H (((List.range n).filter p).map v) := by
  have key := el_lcR1 (t := t) (te := te) (j := j) (vs := vs) p v h ⟨by omega, by omega⟩ hw (fun i H1 e hi => (ht i (by omega)).mono e) (fun i H1 e hi hp => (he i (by omega) hp).mono e)
  unfold given at key
  rw [Int.toNat_natCast] at key
  exact key
/-- over range(1, n + 1) -/
theorem el_rng1F {ta : TA} {j : Nat} {vs : List Nat} {n : Nat} (p : Nat → Bool) (v : Nat → V) (h : EvA ta σ H [.int 1, .int ((n : Int) + 1)]) (hn : n ≤ 40000) (hw : ∀ x, wipe ((wipe σ vs).set j (some x)) vs = wipe σ vs)
    (ht : ∀ i, i < n → EvT t ((wipe σ vs).set j (some (ni (i + 1)))) H (p (i + 1))) (he : ∀ i, i < n → p (i + 1) = true → Ev te ((wipe σ vs).set j (some (ni (i + 1)))) H (v (i + 1))) :
    EvL (tLc (iRng2 ta) (gName j) t te vs) σ H ((((List.range n).map fun i => i + 1).filter p).map v) := by
  have ez : ((n : Int) + 1 - 1).toNat = n := by omega
  have eg : (((List.range n).map fun i => i + 1).filter p).map v = given n (fun i => p (i + 1)) (fun i => v (i + 1)) := by
    unfold given
    rw [List.filter_map, List.map_map]
    rfl
  rw [eg]
  intro H0 e Q q
  refine h H0 e _ fun H1 e1 => ⟨1, (n : Int) + 1, rfl, ⟨by decide, by decide, by omega, by omega⟩, fun Dl hD => ?_⟩
  rw [ez]
  refine lc_range (lo := 1) (n := n) (Cw H1 (fun i => p (i + 1)) (fun i => v (i + 1)) Dl) ⟨hD, Ex.new hD, upd_same⟩ (fun i H' hi pv => ?_) (fun H' p => q Dl H' (fresh_back e1 p.1) (e1.trans p.2.1) p.2.2)
  have e0 : (1 : Int) + (i : Int) = ((i + 1 : Nat) : Int) := by omega
  show wipe ((wipe σ vs).set j (some (.int ((1 : Int) + (i : Int))))) vs = wipe σ vs ∧ t ((wipe σ vs).set j (some (.int ((1 : Int) + (i : Int))))) H' fun b H3 => if b = true then te ((wipe σ vs).set j (some (.int ((1 : Int) + (i : Int))))) H3 fun y H4 => ∃ acc, H4 Dl = some (.lst acc) ∧ acc.length < sizeLine ∧ Cw H1 (fun i => p (i + 1)) (fun i => v (i + 1)) Dl (i + 1) (upd H4 Dl (.lst (acc ++ [y]))) else Cw H1 (fun i => p (i + 1)) (fun i => v (i + 1)) Dl (i + 1) H3
  rw [e0]
  exact ⟨hw _, cw_turn pv (by omega) ((ht i hi).mono (e.trans e1)) (fun hf => (he i hi hf).mono (e.trans e1))⟩
theorem ev_maxN {ns : List Int} {m : Int} (h : EvL ta σ H (iv ns)) (hm : m ∈ ns) (hle : ∀ y ∈ ns, y ≤ m) : Ev (tCB (rMax K) (tCons ta tNil)) σ H (.int m) := fun H1 e Q q =>
  h H1 e _ fun p H2 _ e2 hp => ⟨p, ns, rfl, sq_of hp, List.length_pos_of_mem hm, fun m' hm' hle' => by
    have : m' = m := by have a := hle m' hm'; have b := hle' m hm; omega
    rw [this]
    exact q H2 e2⟩
theorem ev_minN {ns : List Int} {m : Int} (h : EvL ta σ H (iv ns)) (hm : m ∈ ns) (hle : ∀ y ∈ ns, m ≤ y) : Ev (tCB (rMin K) (tCons ta tNil)) σ H (.int m) := fun H1 e Q q =>
  h H1 e _ fun p H2 _ e2 hp => ⟨p, ns, rfl, sq_of hp, List.length_pos_of_mem hm, fun m' hm' hle' => by
    have : m' = m := by have a := hle m' hm'; have b := hle' m hm; omega
    rw [this]
    exact q H2 e2⟩
theorem ev_bits {i : Int} (h : Ev ta σ H (.int i)) : Ev (tBits ta) σ H (.int (Builtin.Int.intBits i : Nat)) := fun H1 e Q q => h H1 e _ fun H2 e2 => ⟨i, rfl, q H2 e2⟩
/-- xs.extend(e), e a new list -/
theorem s_extL {l : Addr} {xs ys : List V} (hl : H l = some (.lst xs)) (ha : Ev ta σ H (.ref l)) (h : EvL te σ H ys) (hz : xs.length + ys.length ≤ 100000) (k : ∀ H1, Ex H H1 → D.nx σ (upd H1 l (.lst (xs ++ ys)))) :
    tDrop (tBM K "list" rExtend ta (tCons te tNil)) D σ H := ha H (Ex.refl H) _ fun H1 e1 =>
  ⟨Or.inl ⟨rfl, xs, sq_of (e1 l _ hl)⟩, h H1 e1 _ fun p H2 hp e2 h2 => ⟨l, p, xs, ys, rfl, rfl, e2 l _ (e1 l _ hl), h2, sz_of hz, k H2 (e1.trans e2)⟩⟩
/-- xs.extend(e), e a tuple that stands -/
theorem s_extT {l b : Addr} {xs ys : List V} (hl : H l = some (.lst xs)) (ha : Ev ta σ H (.ref l)) (h : Ev te σ H (.ref b)) (hb : H b = some (.tup ys)) (hz : xs.length + ys.length ≤ 100000) (k : ∀ H1, Ex H H1 → D.nx σ (upd H1 l (.lst (xs ++ ys)))) :
    tDrop (tBM K "list" (rExtendT K) ta (tCons te tNil)) D σ H := ha H (Ex.refl H) _ fun H1 e1 =>
  ⟨Or.inl ⟨rfl, xs, sq_of (e1 l _ hl)⟩, h H1 e1 _ fun H2 e2 => ⟨l, b, xs, ys, rfl, rfl, e2 l _ (e1 l _ hl), e2 _ _ (e1 _ _ hb), sz_of hz, k H2 (e1.trans e2)⟩⟩
theorem at_last {xs : List V} {v : V} (h : xs[xs.length - 1]? = some v) : atI xs (-1) = some v := by
  have hl : xs.length - 1 < xs.length := (List.getElem?_eq_some_iff.mp h).1
  unfold atI ixN
  rw [if_neg (by decide), if_pos (by omega)]
  show xs[((-1 : Int) + (xs.length : Int)).toNat]? = some v
  have e : ((-1 : Int) + (xs.length : Int)).toNat = xs.length - 1 := by omega
  rw [e]
  exact h
end
end Sh
namespace Sh
open PySem PySem.Spec PyProof.Rows L2 Evl LamX NdefX
section
variable {K : PySem.W.Frag} {σ : L2.St} {H H' : Hp} {ta tb te tl tv to ti : TE} {t : TT} {x y z v : V} {D : Ends} {tz : TS}
theorem dp_ints : ∀ ns : List Int, DpAll K H (iv ns) (ns.map PyData.int)
  | [] => .nil
  | n :: ns => .cons (.int n) (dp_ints ns)
/-- sorted(xs) != e, e a new list -/
theorem et_neSorted {a : Addr} {ns ms : List Int} {b : Bool} (ha : Ev ta σ H (.ref a)) (hs : SqL K H a (iv ns)) (h64 : ns.length < 64) (hb : EvL tb σ H (iv ms)) (hbv : ∀ ns' : List Int, ns'.Perm ns → ns'.Pairwise (· ≤ ·) → decide (ns' ≠ ms) = b) :
    EvT (tTest (tOp (rNeD K) (tCB (rSorted K) (tCons ta tNil)) tb)) σ H b := fun H1 e Q q =>
  ha H1 e _ fun H2 e2 => ⟨a, ns, rfl, ex_l (e.trans e2) hs, h64, fun ns' p hp hs' np => hb _ ((e.trans e2).trans (Ex.new np)) _ fun r H3 nr e3 h3 => by
    have hp3 : H3 p = some (.lst (iv ns')) := e3 _ _ upd_same
    refine ⟨.list (ns'.map PyData.int), .list (ms.map PyData.int), .lst (sq_of hp3) (dp_ints ns'), .lst (sq_of h3) (dp_ints ms), PySem.W.ke_shaped_ints _, PySem.W.ke_shaped_ints _, b, ?_, q H3 ((e2.trans (Ex.new np)).trans e3)⟩
    have e5 : PyData.eqv (.list (ns'.map PyData.int)) (.list (ms.map PyData.int)) = decide (ns' = ms) := PySem.W.ked_eqvAll ns' ms
    rw [e5, ← hbv ns' hp hs']
    simp⟩
theorem el_call1L {sp : Sp} {E : XK} {xs ys : List V} (h : EvL ta σ H xs) (hs : ∀ p H1, H1 p = some (.lst xs) → Ex H H1 → SpL sp [.ref p] H1 ys) : EvL (tCall sp [] E (tCons ta tNil)) σ H ys := fun H1 e Q q =>
  h H1 e _ fun p H2 np e2 hp => hs p H2 hp (e.trans e2) H2 (Ex.refl H2) Q (fun r H3 nr e3 h3 => q r H3 (fresh_back e2 nr) (e2.trans e3) h3) E
/-- o.f = e -/
theorem q_fld {a C dx : Addr} {fs : List (Str × V)} {n : Str} (hv : Ev tv σ H y) (ha : Ev ta σ H (.ref a)) (ho : H a = some (.ins C dx fs)) (hc : Cls K C) (hn : NoAttr K C n) (hl : fs.length < 1000) (k : ∀ H1, Ex H H1 → tz D σ (upd H1 a (.ins C dx (putF n y fs)))) : tSeq (sFld K ta tv n) tz D σ H :=
  hv H (Ex.refl H) _ fun H1 e1 => ha H1 e1 _ fun H2 e2 => ⟨a, C, dx, fs, rfl, (e1.trans e2) _ _ ho, hc, hn, hl, k H2 (e1.trans e2)⟩
theorem q_fldL {a C dx : Addr} {fs : List (Str × V)} {n : Str} {ys : List V} (hv : EvL tv σ H ys) (ha : Ev ta σ H (.ref a)) (ho : H a = some (.ins C dx fs)) (hc : Cls K C) (hn : NoAttr K C n) (hl : fs.length < 1000) (k : ∀ p H1, H p = none → Ex H H1 → H1 p = some (.lst ys) → tz D σ (upd H1 a (.ins C dx (putF n (.ref p) fs)))) : tSeq (sFld K ta tv n) tz D σ H :=
  hv H (Ex.refl H) _ fun p H1 np e1 h1 => ha H1 e1 _ fun H2 e2 => ⟨a, C, dx, fs, rfl, (e1.trans e2) _ _ ho, hc, hn, hl, k p H2 np (e1.trans e2) (e2 _ _ h1)⟩
theorem s_fldL {a C dx : Addr} {fs : List (Str × V)} {n : Str} {ys : List V} (hv : EvL tv σ H ys) (ha : Ev ta σ H (.ref a)) (ho : H a = some (.ins C dx fs)) (hc : Cls K C) (hn : NoAttr K C n) (hl : fs.length < 1000) (k : ∀ p H1, H p = none → Ex H H1 → H1 p = some (.lst ys) → D.nx σ (upd H1 a (.ins C dx (putF n (.ref p) fs)))) : sFld K ta tv n D σ H :=
  hv H (Ex.refl H) _ fun p H1 np e1 h1 => ha H1 e1 _ fun H2 e2 => ⟨a, C, dx, fs, rfl, (e1.trans e2) _ _ ho, hc, hn, hl, k p H2 np (e1.trans e2) (e2 _ _ h1)⟩
/-- o[i] op= e, o a list -/
theorem q_augL {l : Addr} {xs : List V} {j : Nat} {a b : Int} {g : Int → Int → Int} (ho : Ev to σ H (.ref l)) (hi : Ev ti σ H (.int (j : Int))) (hl : H l = some (.lst xs)) (hj : xs[j]? = some (.int a)) (he : Ev te σ H (.int b)) (k : ∀ H1, Ex H H1 → tz D σ (upd H1 l (.lst (xs.set j (.int (g a b)))))) :
    tSeq (tAugS to ti te (rIxL K) (ipI g) rSetL) tz D σ H :=
  ho H (Ex.refl H) _ fun H1 e1 => hi H1 e1 _ fun H2 e2 => ⟨l, xs, (j : Int), .int a, rfl, rfl, sq_of ((e1.trans e2) _ _ hl), atI_nat hj, he H2 (e1.trans e2) _ fun H3 e3 => ⟨a, b, rfl, rfl,
    ⟨l, xs, (j : Int), j, rfl, rfl, ((e1.trans e2).trans e3) _ _ hl, ixN_nat (List.getElem?_eq_some_iff.mp hj).1, k H3 ((e1.trans e2).trans e3)⟩⟩⟩
end
theorem tabs_mut {T : List (Addr × Str)} {H : Hp} {x : Addr} {u o : HO} (t : Tabs T H) (hx : H x = some u) (h1 : ∀ ps, u ≠ .tbl ps) (h2 : ∀ g, u ≠ .ext g) : Tabs T (upd H x o) := fun p hp => by
  obtain ⟨ps, a, b, c⟩ := t p hp
  refine ⟨ps, ?_, b, fun pos cv hc => ?_⟩
  · rw [upd_ne (fun z => by rw [z, hx] at a; exact h1 ps (Option.some.inj a))]
    exact a
  · obtain ⟨cc, e1, e2⟩ := c pos cv hc
    refine ⟨cc, e1, ?_⟩
    rw [upd_ne (fun z => by rw [z, hx] at e2; exact h2 _ (Option.some.inj e2))]
    exact e2
end Sh
namespace Sh
open PySem PySem.Spec PyProof.Rows L2 Evl
def topS (i : Nat) : Stmt := PySem.Challenge.pw_sharedout_s01_answers.main.body.getD i (.Pass ⟨0, 0, 0, 0⟩)
abbrev s_set_of : Stmt := topS 2
theorem sc_set_of : FnScope ["thing"] ["thing"] (defScope s_set_of) := ⟨rfl, rfl, rfl, by decide +kernel, rfl, by decide +kernel, by decide +kernel⟩
abbrev s_has : Stmt := topS 3
theorem sc_has : FnScope ["chosen", "thing"] ["chosen", "thing"] (defScope s_has) := ⟨rfl, rfl, rfl, by decide +kernel, rfl, by decide +kernel, by decide +kernel⟩
abbrev s_things_up_to : Stmt := topS 4
theorem sc_things_up_to : FnScope ["n"] ["n"] (defScope s_things_up_to) := ⟨rfl, rfl, rfl, by decide +kernel, rfl, by decide +kernel, by decide +kernel⟩
abbrev s_size_of : Stmt := topS 5
theorem sc_size_of : FnScope ["chosen", "thing"] ["chosen"] (defScope s_size_of) := ⟨rfl, rfl, rfl, by decide +kernel, rfl, by decide +kernel, by decide +kernel⟩
abbrev s_together : Stmt := topS 6
theorem sc_together : FnScope ["shares", "chosen", "place", "share"] ["shares", "chosen"] (defScope s_together) := ⟨rfl, rfl, rfl, by decide +kernel, rfl, by decide +kernel, by decide +kernel⟩
abbrev s_brings : Stmt := topS 7
theorem sc_brings : FnScope ["function", "thing", "chosen"] ["function", "thing", "chosen"] (defScope s_brings) := ⟨rfl, rfl, rfl, by decide +kernel, rfl, by decide +kernel, by decide +kernel⟩
abbrev s_never_brings_more : Stmt := topS 8
theorem sc_never_brings_more : FnScope ["function", "chosen", "outside", "other", "wider", "thing"] ["function", "chosen", "outside"] (defScope s_never_brings_more) := ⟨rfl, rfl, rfl, by decide +kernel, rfl, by decide +kernel, by decide +kernel⟩
abbrev s_is_of_this_kind : Stmt := topS 9
theorem sc_is_of_this_kind : FnScope ["function", "n", "chosen", "outside", "thing"] ["function", "n"] (defScope s_is_of_this_kind) := ⟨rfl, rfl, rfl, by decide +kernel, rfl, by decide +kernel, by decide +kernel⟩
abbrev s_weight_met : Stmt := topS 10
theorem sc_weight_met : FnScope ["points", "chosen", "weight", "reach"] ["points", "chosen"] (defScope s_weight_met) := ⟨rfl, rfl, rfl, by decide +kernel, rfl, by decide +kernel, by decide +kernel⟩
abbrev s_base_by_order : Stmt := topS 11
theorem sc_base_by_order : FnScope ["function", "things", "shares", "before", "thing"] ["function", "things"] (defScope s_base_by_order) := ⟨rfl, rfl, rfl, by decide +kernel, rfl, by decide +kernel, by decide +kernel⟩
abbrev s_order_by_weight : Stmt := topS 12
theorem sc_order_by_weight : FnScope ["weights"] ["weights"] (defScope s_order_by_weight) := ⟨rfl, rfl, rfl, by decide +kernel, rfl, by decide +kernel, by decide +kernel⟩
abbrev s_base_by_greed : Stmt := topS 13
theorem sc_base_by_greed : FnScope ["function", "weights"] ["function", "weights"] (defScope s_base_by_greed) := ⟨rfl, rfl, rfl, by decide +kernel, rfl, by decide +kernel, by decide +kernel⟩
abbrev s_worth_of : Stmt := topS 14
theorem sc_worth_of : FnScope ["shares", "weights", "share", "weight"] ["shares", "weights"] (defScope s_worth_of) := ⟨rfl, rfl, rfl, by decide +kernel, rfl, by decide +kernel, by decide +kernel⟩
abbrev s_orders_of : Stmt := topS 15
theorem sc_orders_of : FnScope ["n", "found", "thing", "longer", "things", "place"] ["n"] (defScope s_orders_of) := ⟨rfl, rfl, rfl, by decide +kernel, rfl, by decide +kernel, by decide +kernel⟩
abbrev s_different_corners : Stmt := topS 16
theorem sc_different_corners : FnScope ["function", "n", "seen", "things"] ["function", "n"] (defScope s_different_corners) := ⟨rfl, rfl, rfl, by decide +kernel, rfl, by decide +kernel, by decide +kernel⟩
abbrev s_lowest_with_too_much : Stmt := topS 17
theorem sc_lowest_with_too_much : FnScope ["function", "shares", "chosen"] ["function", "shares"] (defScope s_lowest_with_too_much) := ⟨rfl, rfl, rfl, by decide +kernel, rfl, by decide +kernel, by decide +kernel⟩
abbrev s_in_parts : Stmt := topS 18
theorem sc_in_parts : FnScope ["shares", "share"] ["shares"] (defScope s_in_parts) := ⟨rfl, rfl, rfl, by decide +kernel, rfl, by decide +kernel, by decide +kernel⟩
abbrev s_as_fraction : Stmt := topS 19
theorem sc_as_fraction : FnScope ["count", "common", "size"] ["count"] (defScope s_as_fraction) := ⟨rfl, rfl, rfl, by decide +kernel, rfl, by decide +kernel, by decide +kernel⟩
abbrev s_as_fractions : Stmt := topS 20
theorem sc_as_fractions : FnScope ["parts", "told", "count"] ["parts"] (defScope s_as_fractions) := ⟨rfl, rfl, rfl, by decide +kernel, rfl, by decide +kernel, by decide +kernel⟩
abbrev s_left_to : Stmt := topS 21
theorem sc_left_to : FnScope ["function", "parts", "chosen"] ["function", "parts", "chosen"] (defScope s_left_to) := ⟨rfl, rfl, rfl, by decide +kernel, rfl, by decide +kernel, by decide +kernel⟩
abbrev s_tight_sets : Stmt := topS 22
theorem sc_tight_sets : FnScope ["function", "parts", "chosen"] ["function", "parts"] (defScope s_tight_sets) := ⟨rfl, rfl, rfl, by decide +kernel, rfl, by decide +kernel, by decide +kernel⟩
abbrev s_common_to_tight_sets : Stmt := topS 23
theorem sc_common_to_tight_sets : FnScope ["function", "parts", "thing", "common", "chosen"] ["function", "parts", "thing"] (defScope s_common_to_tight_sets) := ⟨rfl, rfl, rfl, by decide +kernel, rfl, by decide +kernel, by decide +kernel⟩
abbrev s_room_between : Stmt := topS 24
theorem sc_room_between : FnScope ["function", "parts", "gainer", "giver", "between", "chosen"] ["function", "parts", "gainer", "giver"] (defScope s_room_between) := ⟨rfl, rfl, rfl, by decide +kernel, rfl, by decide +kernel, by decide +kernel⟩
abbrev s_means_beside : Stmt := topS 25
theorem sc_means_beside : FnScope ["function", "settled", "means", "chosen"] ["function", "settled"] (defScope s_means_beside) := ⟨rfl, rfl, rfl, by decide +kernel, rfl, by decide +kernel, by decide +kernel⟩
abbrev s_all_with_mean : Stmt := topS 26
theorem sc_all_with_mean : FnScope ["means", "wanted", "reached", "chosen", "mean"] ["means", "wanted"] (defScope s_all_with_mean) := ⟨rfl, rfl, rfl, by decide +kernel, rfl, by decide +kernel, by decide +kernel⟩
abbrev s_fairest_parts : Stmt := topS 27
theorem sc_fairest_parts : FnScope ["function", "n", "parts", "settled", "means", "least", "reached", "thing"] ["function", "n"] (defScope s_fairest_parts) := ⟨rfl, rfl, rfl, by decide +kernel, rfl, by decide +kernel, by decide +kernel⟩
abbrev s_whole : Stmt := topS 50
theorem sc_whole : FnScope ["handed"] ["handed"] (defScope s_whole) := ⟨rfl, rfl, rfl, by decide +kernel, rfl, by decide +kernel, by decide +kernel⟩
abbrev s_wholes : Stmt := topS 51
theorem sc_wholes : FnScope ["row", "handed"] ["row"] (defScope s_wholes) := ⟨rfl, rfl, rfl, by decide +kernel, rfl, by decide +kernel, by decide +kernel⟩
abbrev s_is_within : Stmt := topS 52
theorem sc_is_within : FnScope ["row", "most", "number"] ["row", "most"] (defScope s_is_within) := ⟨rfl, rfl, rfl, by decide +kernel, rfl, by decide +kernel, by decide +kernel⟩
abbrev s_is_points : Stmt := topS 53
theorem sc_is_points : FnScope ["n", "row"] ["n", "row"] (defScope s_is_points) := ⟨rfl, rfl, rfl, by decide +kernel, rfl, by decide +kernel, by decide +kernel⟩
abbrev s_Desk_init : Stmt := inClass (topS 54) 0
theorem sc_Desk_init : FnScope ["self"] ["self"] (defScope s_Desk_init) := ⟨rfl, rfl, rfl, by decide +kernel, rfl, by decide +kernel, by decide +kernel⟩
abbrev s_Desk_take_function : Stmt := inClass (topS 54) 1
theorem sc_Desk_take_function : FnScope ["self", "n", "function"] ["self", "n", "function"] (defScope s_Desk_take_function) := ⟨rfl, rfl, rfl, by decide +kernel, rfl, by decide +kernel, by decide +kernel⟩
abbrev s_Desk_takes_row : Stmt := inClass (topS 54) 2
theorem sc_Desk_takes_row : FnScope ["self", "row"] ["self", "row"] (defScope s_Desk_takes_row) := ⟨rfl, rfl, rfl, by decide +kernel, rfl, by decide +kernel, by decide +kernel⟩
abbrev s_Desk_is_thing : Stmt := inClass (topS 54) 3
theorem sc_Desk_is_thing : FnScope ["self", "number"] ["self", "number"] (defScope s_Desk_is_thing) := ⟨rfl, rfl, rfl, by decide +kernel, rfl, by decide +kernel, by decide +kernel⟩
abbrev s_Desk_takes_pair : Stmt := inClass (topS 54) 4
theorem sc_Desk_takes_pair : FnScope ["self", "i", "j"] ["self", "i", "j"] (defScope s_Desk_takes_pair) := ⟨rfl, rfl, rfl, by decide +kernel, rfl, by decide +kernel, by decide +kernel⟩
abbrev s_Desk_tell : Stmt := inClass (topS 54) 5
theorem sc_Desk_tell : FnScope ["self", "row"] ["self", "row"] (defScope s_Desk_tell) := ⟨rfl, rfl, rfl, by decide +kernel, rfl, by decide +kernel, by decide +kernel⟩
abbrev s_Desk_cover : Stmt := inClass (topS 54) 6
theorem sc_Desk_cover : FnScope ["self", "n", "row", "chosen"] ["self", "n", "row"] (defScope s_Desk_cover) := ⟨rfl, rfl, rfl, by decide +kernel, rfl, by decide +kernel, by decide +kernel⟩
abbrev s_Desk_order : Stmt := inClass (topS 54) 7
theorem sc_Desk_order : FnScope ["self", "things", "shares"] ["self", "things"] (defScope s_Desk_order) := ⟨rfl, rfl, rfl, by decide +kernel, rfl, by decide +kernel, by decide +kernel⟩
abbrev s_Desk_greed : Stmt := inClass (topS 54) 8
theorem sc_Desk_greed : FnScope ["self", "row", "weights", "shares"] ["self", "row"] (defScope s_Desk_greed) := ⟨rfl, rfl, rfl, by decide +kernel, rfl, by decide +kernel, by decide +kernel⟩
abbrev s_Desk_corners : Stmt := inClass (topS 54) 9
theorem sc_Desk_corners : FnScope ["self", "found", "answer", "corner"] ["self"] (defScope s_Desk_corners) := ⟨rfl, rfl, rfl, by decide +kernel, rfl, by decide +kernel, by decide +kernel⟩
abbrev s_Desk_is_base : Stmt := inClass (topS 54) 10
theorem sc_Desk_is_base : FnScope ["self", "row", "shares", "chosen"] ["self", "row"] (defScope s_Desk_is_base) := ⟨rfl, rfl, rfl, by decide +kernel, rfl, by decide +kernel, by decide +kernel⟩
abbrev s_Desk_base : Stmt := inClass (topS 54) 11
theorem sc_Desk_base : FnScope ["self"] ["self"] (defScope s_Desk_base) := ⟨rfl, rfl, rfl, by decide +kernel, rfl, by decide +kernel, by decide +kernel⟩
abbrev s_Desk_tight : Stmt := inClass (topS 54) 12
theorem sc_Desk_tight : FnScope ["self", "found"] ["self"] (defScope s_Desk_tight) := ⟨rfl, rfl, rfl, by decide +kernel, rfl, by decide +kernel, by decide +kernel⟩
abbrev s_Desk_around : Stmt := inClass (topS 54) 13
theorem sc_Desk_around : FnScope ["self", "i"] ["self", "i"] (defScope s_Desk_around) := ⟨rfl, rfl, rfl, by decide +kernel, rfl, by decide +kernel, by decide +kernel⟩
abbrev s_Desk_room : Stmt := inClass (topS 54) 14
theorem sc_Desk_room : FnScope ["self", "i", "j"] ["self", "i", "j"] (defScope s_Desk_room) := ⟨rfl, rfl, rfl, by decide +kernel, rfl, by decide +kernel, by decide +kernel⟩
abbrev s_Desk_move : Stmt := inClass (topS 54) 15
theorem sc_Desk_move : FnScope ["self", "i", "j", "moved"] ["self", "i", "j"] (defScope s_Desk_move) := ⟨rfl, rfl, rfl, by decide +kernel, rfl, by decide +kernel, by decide +kernel⟩
abbrev s_Desk_fairest : Stmt := inClass (topS 54) 16
theorem sc_Desk_fairest : FnScope ["self"] ["self"] (defScope s_Desk_fairest) := ⟨rfl, rfl, rfl, by decide +kernel, rfl, by decide +kernel, by decide +kernel⟩
abbrev s_Desk_stretch : Stmt := inClass (topS 54) 17
theorem sc_Desk_stretch : FnScope ["self", "row", "weights"] ["self", "row"] (defScope s_Desk_stretch) := ⟨rfl, rfl, rfl, by decide +kernel, rfl, by decide +kernel, by decide +kernel⟩
abbrev s_answer_of : Stmt := topS 55
theorem sc_answer_of : FnScope ["desk", "call", "numbers", "row"] ["desk", "call", "numbers", "row"] (defScope s_answer_of) := ⟨rfl, rfl, rfl, by decide +kernel, rfl, by decide +kernel, by decide +kernel⟩
abbrev s_answers : Stmt := topS 56
theorem sc_answers : FnScope ["calls", "desk", "answered", "place", "call", "start", "numbers", "row", "answer"] ["calls"] (defScope s_answers) := ⟨rfl, rfl, rfl, by decide +kernel, rfl, by decide +kernel, by decide +kernel⟩
/-- where the classes and the tuples of the top stand -/
structure Adr where
  Desk : Addr
  TABLE_LENGTHS : Addr
  WHOLES_OF_CALL : Addr
  ROWS_OF_CALL : Addr
/-- what the top has written -/
structure Txt (K : PySem.W.Frag) (mg : Str → Option Value) (A : Adr) : Prop where
  b_all : mg "all" = none
  b_enumerate : mg "enumerate" = none
  b_len : mg "len" = none
  b_list : mg "list" = none
  b_max : mg "max" = none
  b_min : mg "min" = none
  b_range : mg "range" = none
  b_sorted : mg "sorted" = none
  b_sum : mg "sum" = none
  b_tuple : mg "tuple" = none
  b_zip : mg "zip" = none
  c_PARTS_OF_ONE : ∃ t, mg "PARTS_OF_ONE" = some (.int (60) t)
  c_TABLE_LENGTHS : mg "TABLE_LENGTHS" = some (.ref A.TABLE_LENGTHS)
  t_TABLE_LENGTHS : ∀ H : Hp, SqT K H A.TABLE_LENGTHS (iv [2, 4, 8, 16, 32])
  o_TABLE_LENGTHS : ∃ o, K.lookup A.TABLE_LENGTHS = some o ∧ o.cls = .type "tuple" ∧ o.dict = none
  c_MOST_THINGS : ∃ t, mg "MOST_THINGS" = some (.int (5) t)
  c_MOST_HANDED : ∃ t, mg "MOST_HANDED" = some (.int (20000) t)
  c_MOST_POINTS : ∃ t, mg "MOST_POINTS" = some (.int (20) t)
  c_MOST_WEIGHT : ∃ t, mg "MOST_WEIGHT" = some (.int (1000) t)
  c_BAD_NUMBERS : ∃ t, mg "BAD_NUMBERS" = some (.int (-1) t)
  c_BAD_FUNCTION : ∃ t, mg "BAD_FUNCTION" = some (.int (-6) t)
  c_TELL : ∃ t, mg "TELL" = some (.int (0) t)
  c_COVER : ∃ t, mg "COVER" = some (.int (1) t)
  c_ORDER : ∃ t, mg "ORDER" = some (.int (2) t)
  c_GREED : ∃ t, mg "GREED" = some (.int (3) t)
  c_CORNERS : ∃ t, mg "CORNERS" = some (.int (4) t)
  c_IS_BASE : ∃ t, mg "IS_BASE" = some (.int (5) t)
  c_BASE : ∃ t, mg "BASE" = some (.int (6) t)
  c_TIGHT : ∃ t, mg "TIGHT" = some (.int (7) t)
  c_AROUND : ∃ t, mg "AROUND" = some (.int (8) t)
  c_ROOM : ∃ t, mg "ROOM" = some (.int (9) t)
  c_MOVE : ∃ t, mg "MOVE" = some (.int (10) t)
  c_FAIREST : ∃ t, mg "FAIREST" = some (.int (11) t)
  c_WHOLES_OF_CALL : mg "WHOLES_OF_CALL" = some (.ref A.WHOLES_OF_CALL)
  t_WHOLES_OF_CALL : ∀ H : Hp, SqT K H A.WHOLES_OF_CALL (iv [0, 1, 0, 0, 0, 0, 0, 0, 1, 2, 2, 0, 0])
  o_WHOLES_OF_CALL : ∃ o, K.lookup A.WHOLES_OF_CALL = some o ∧ o.cls = .type "tuple" ∧ o.dict = none
  c_ROWS_OF_CALL : mg "ROWS_OF_CALL" = some (.ref A.ROWS_OF_CALL)
  t_ROWS_OF_CALL : ∀ H : Hp, SqT K H A.ROWS_OF_CALL (iv [1, 1, 1, 1, 0, 1, 0, 0, 0, 0, 0, 0, 1])
  o_ROWS_OF_CALL : ∃ o, K.lookup A.ROWS_OF_CALL = some o ∧ o.cls = .type "tuple" ∧ o.dict = none
  cl_Desk : Cls K A.Desk
  g_Desk : mg "Desk" = some (.ref A.Desk)
  mk_Desk : PySem.W.makesIn K A.Desk = true
  kc_Desk : PySem.W.keepIn K (.ref A.Desk) = true
  na_Desk_n : NoAttr K A.Desk "n"
  na_Desk_function : NoAttr K A.Desk "function"
  na_Desk_parts : NoAttr K A.Desk "parts"
  h_set_of : Has K mg "set_of" s_set_of ["thing"]
  h_has : Has K mg "has" s_has ["chosen", "thing"]
  h_things_up_to : Has K mg "things_up_to" s_things_up_to ["n"]
  h_size_of : Has K mg "size_of" s_size_of ["chosen"]
  h_together : Has K mg "together" s_together ["shares", "chosen"]
  h_brings : Has K mg "brings" s_brings ["function", "thing", "chosen"]
  h_never_brings_more : Has K mg "never_brings_more" s_never_brings_more ["function", "chosen", "outside"]
  h_is_of_this_kind : Has K mg "is_of_this_kind" s_is_of_this_kind ["function", "n"]
  h_weight_met : Has K mg "weight_met" s_weight_met ["points", "chosen"]
  h_base_by_order : Has K mg "base_by_order" s_base_by_order ["function", "things"]
  h_order_by_weight : Has K mg "order_by_weight" s_order_by_weight ["weights"]
  h_base_by_greed : Has K mg "base_by_greed" s_base_by_greed ["function", "weights"]
  h_worth_of : Has K mg "worth_of" s_worth_of ["shares", "weights"]
  h_orders_of : Has K mg "orders_of" s_orders_of ["n"]
  h_different_corners : Has K mg "different_corners" s_different_corners ["function", "n"]
  h_lowest_with_too_much : Has K mg "lowest_with_too_much" s_lowest_with_too_much ["function", "shares"]
  h_in_parts : Has K mg "in_parts" s_in_parts ["shares"]
  h_as_fraction : Has K mg "as_fraction" s_as_fraction ["count"]
  h_as_fractions : Has K mg "as_fractions" s_as_fractions ["parts"]
  h_left_to : Has K mg "left_to" s_left_to ["function", "parts", "chosen"]
  h_tight_sets : Has K mg "tight_sets" s_tight_sets ["function", "parts"]
  h_common_to_tight_sets : Has K mg "common_to_tight_sets" s_common_to_tight_sets ["function", "parts", "thing"]
  h_room_between : Has K mg "room_between" s_room_between ["function", "parts", "gainer", "giver"]
  h_means_beside : Has K mg "means_beside" s_means_beside ["function", "settled"]
  h_all_with_mean : Has K mg "all_with_mean" s_all_with_mean ["means", "wanted"]
  h_fairest_parts : Has K mg "fairest_parts" s_fairest_parts ["function", "n"]
  h_whole : Has K mg "whole" s_whole ["handed"]
  h_wholes : Has K mg "wholes" s_wholes ["row"]
  h_is_within : Has K mg "is_within" s_is_within ["row", "most"]
  h_is_points : Has K mg "is_points" s_is_points ["n", "row"]
  h_Desk_init : HasM K A.Desk "__init__" "Desk.__init__" s_Desk_init ["self"]
  h_Desk_take_function : HasM K A.Desk "take_function" "Desk.take_function" s_Desk_take_function ["self", "n", "function"]
  h_Desk_takes_row : HasM K A.Desk "takes_row" "Desk.takes_row" s_Desk_takes_row ["self", "row"]
  h_Desk_is_thing : HasM K A.Desk "is_thing" "Desk.is_thing" s_Desk_is_thing ["self", "number"]
  h_Desk_takes_pair : HasM K A.Desk "takes_pair" "Desk.takes_pair" s_Desk_takes_pair ["self", "i", "j"]
  h_Desk_tell : HasM K A.Desk "tell" "Desk.tell" s_Desk_tell ["self", "row"]
  h_Desk_cover : HasM K A.Desk "cover" "Desk.cover" s_Desk_cover ["self", "n", "row"]
  h_Desk_order : HasM K A.Desk "order" "Desk.order" s_Desk_order ["self", "things"]
  h_Desk_greed : HasM K A.Desk "greed" "Desk.greed" s_Desk_greed ["self", "row"]
  h_Desk_corners : HasM K A.Desk "corners" "Desk.corners" s_Desk_corners ["self"]
  h_Desk_is_base : HasM K A.Desk "is_base" "Desk.is_base" s_Desk_is_base ["self", "row"]
  h_Desk_base : HasM K A.Desk "base" "Desk.base" s_Desk_base ["self"]
  h_Desk_tight : HasM K A.Desk "tight" "Desk.tight" s_Desk_tight ["self"]
  h_Desk_around : HasM K A.Desk "around" "Desk.around" s_Desk_around ["self", "i"]
  h_Desk_room : HasM K A.Desk "room" "Desk.room" s_Desk_room ["self", "i", "j"]
  h_Desk_move : HasM K A.Desk "move" "Desk.move" s_Desk_move ["self", "i", "j"]
  h_Desk_fairest : HasM K A.Desk "fairest" "Desk.fairest" s_Desk_fairest ["self"]
  h_Desk_stretch : HasM K A.Desk "stretch" "Desk.stretch" s_Desk_stretch ["self", "row"]
  h_answer_of : Has K mg "answer_of" s_answer_of ["desk", "call", "numbers", "row"]
  h_answers : Has K mg "answers" s_answers ["calls"]
end Sh
namespace Sh
open PySem PySem.Spec PyProof.Rows L2 Evl
section
variable {P : Program} {w : World} {K : PySem.W.Frag} {mg : Str → Option Value} {base : Heap} {A : Adr}
/-! whole -/
def sp_whole : Sp := fun vs H Q _ => ∃ n : Nat, vs = [ni n] ∧ RetV (.int (Dr01.whole n)) H Q
theorem ok_whole (T : Txt K mg A) (k : Nat) : Ok P w K mg base "whole" ["handed"] (k + 1) sp_whole := by
  refine ok_of T.h_whole sc_whole (fun vs H Q E h => ?_) (fun f cdv A outer s H vs Q E hr h => ?_)
  · obtain ⟨n, rfl, _⟩ := h
    rfl
  · obtain ⟨n, rfl, q⟩ := h
    refine ⟨_, pss_cons (ps_if (pt_cmpR op_eq (pe_op op_mod (pv 0) pe_int) pe_int (nomark _)) (pss_one (ps_ret (pe_op op_fdiv (pv 0) pe_int))) pss_nil)
      (pss_one (ps_ret (pe_un un_neg (pe_op op_fdiv (pe_op op_add (pv 0) pe_int) pe_int)))), ?_⟩
    refine q_when (ev_eqI (ev_op (ev_var rfl) ev_c (rv_I (by decide))) ev_c) (fun hb H1 e1 => ?_) (fun hb H1 e1 => ?_)
    · refine s_ret (ev_is (ev_op (ev_var rfl) ev_c (rv_I ⟨by decide, by decide⟩)) ?_) (fun H2 e2 => q H2 (e1.trans e2))
      have h0 := of_decide_eq_true hb
      unfold Dr01.whole
      rw [if_pos (by omega)]
      rfl
    · refine s_ret (ev_is (ev_un (ev_op (ev_op (ev_var rfl) ev_c rv_I0) ev_c (rv_I ⟨by decide, by decide⟩)) ru_neg) ?_) (fun H2 e2 => q H2 (e1.trans e2))
      have h0 := of_decide_eq_false hb
      unfold Dr01.whole
      rw [if_neg (by omega)]
      rfl
theorem sv_whole (n : Nat) (H : Hp) : SpV sp_whole [ni n] H (.int (Dr01.whole n)) := fun H1 e Q q E => ⟨n, rfl, q⟩
/-! wholes -/
def sp_wholes (K : PySem.W.Frag) : Sp := fun vs H Q _ => ∃ (a : Addr) (l : List Nat), vs = [.ref a] ∧ SqL K H a (nv l) ∧ l.length ≤ 40000 ∧ RetL (iv (l.map Dr01.whole)) H Q
theorem ok_wholes (T : Txt K mg A) (k : Nat) : Ok P w K mg base "wholes" ["row"] (k + 2) (sp_wholes K) := by
  have o_whole := ok_whole (P := P) (w := w) (base := base) T k
  refine ok_of T.h_wholes sc_wholes (fun vs H Q E h => ?_) (fun f cdv A outer s H vs Q E hr h => ?_)
  · obtain ⟨a, l, rfl, _⟩ := h
    rfl
  · obtain ⟨a, l, rfl, hs, hl, q⟩ := h
    refine ⟨_, pss_one (ps_ret (pe_lc (own := [("handed", 1)]) (g := gName 1) (tt := tYes) rfl sc_wholes.nd (pi_list (pv 0)) (blkOk_by (own := [("handed", 1)]) (N := ["row", "handed"]) (sc := defScope s_wholes) (by decide +kernel)) (fun _ _ _ _ _ => (pg_name (i := 1) sc_wholes.nd rfl (.inl rfl))) (fun _ _ _ _ _ => pts_nil) (fun _ _ _ _ _ => (pe_ok o_whole hr (by rfl) (pa_cons (pv 1) pa_nil))))), ?_⟩
    refine s_retL (el_mapA (l := l) (fun n => .int (Dr01.whole n)) (ev_var rfl) hs hl (fun _ => rfl) (fun x _ => ev_call (ea_cons (ev_var rfl) ea_nil) (sv_whole x _))) (fun p H1 hp e h1 => q p H1 hp e ?_)
    rw [h1, iv, List.map_map]
    rfl
theorem sl_wholes {a : Addr} {l : List Nat} {H : Hp} (hs : SqL K H a (nv l)) (hl : l.length ≤ 40000) : SpL (sp_wholes K) [.ref a] H (iv (l.map Dr01.whole)) := fun H1 e Q q E => ⟨a, l, rfl, ex_l e hs, hl, q⟩
/-! is_within -/
def sp_is_within (K : PySem.W.Frag) : Sp := fun vs H Q _ => ∃ (a : Addr) (l : List Nat) (m : Nat), vs = [.ref a, ni m] ∧ SqL K H a (nv l) ∧ l.length ≤ 40000 ∧ RetV (.bl (l.all fun z => decide (z ≤ m))) H Q
theorem ok_is_within (T : Txt K mg A) (k : Nat) : Ok P w K mg base "is_within" ["row", "most"] (k + 1) (sp_is_within K) := by
  refine ok_of T.h_is_within sc_is_within (fun vs H Q E h => ?_) (fun f cdv A outer s H vs Q E hr h => ?_)
  · obtain ⟨a, l, m, rfl, _⟩ := h
    rfl
  · obtain ⟨a, l, m, rfl, hs, hl, q⟩ := h
    refine ⟨_, pss_one (ps_ret (pe_callB (cr_all rfl) (by rfl) T.b_all (by decide +kernel) (pa_cons (pe_lc (own := [("number", 2)]) (g := gName 2) (tt := tYes) rfl sc_is_within.nd (pi_list (pv 0)) (blkOk_by (own := [("number", 2)]) (N := ["row", "most", "number"]) (sc := defScope s_is_within) (by decide +kernel)) (fun _ _ _ _ _ => (pg_name (i := 2) sc_is_within.nd rfl (.inl rfl))) (fun _ _ _ _ _ => pts_nil) (fun _ _ _ _ _ => (pe_cmpR op_le (pv 2) (pv 1) (nomark _)))) pa_nil))), ?_⟩
    refine s_ret (ev_is (ev_allN (bs := l.map fun z => decide (z ≤ m)) (by
      rw [List.map_map]
      exact el_mapA (l := l) _ (ev_var rfl) hs hl (fun _ => rfl) (fun x _ => ev_is (ev_op (ev_var rfl) (ev_var rfl) rv_I0) (by simp)))) ?_) q
    rw [List.all_map]
    rfl
theorem sv_is_within {a : Addr} {l : List Nat} {m : Nat} {H : Hp} (hs : SqL K H a (nv l)) (hl : l.length ≤ 40000) : SpV (sp_is_within K) [.ref a, ni m] H (.bl (l.all fun z => decide (z ≤ m))) := fun H1 e Q q E => ⟨a, l, m, rfl, ex_l e hs, hl, q⟩
/-! set_of -/
def sp_set_of : Sp := fun vs H Q _ => ∃ t : Nat, vs = [ni t] ∧ 1 ≤ t ∧ t ≤ 1000 ∧ RetV (ni (2 ^ (t - 1))) H Q
theorem ok_set_of (T : Txt K mg A) (k : Nat) : Ok P w K mg base "set_of" ["thing"] (k + 1) sp_set_of := by
  refine ok_of T.h_set_of sc_set_of (fun vs H Q E h => ?_) (fun f cdv A outer s H vs Q E hr h => ?_)
  · obtain ⟨t, rfl, _⟩ := h
    rfl
  · obtain ⟨t, rfl, h1, h2, q⟩ := h
    refine ⟨_, pss_one (ps_ret (pe_op op_shl pe_int (pe_op op_sub (pv 0) pe_int))), ?_⟩
    refine s_ret (ev_is (ev_op ev_c (ev_op (ev_var rfl) ev_c rv_I0) (rv_I ⟨by omega, by omega, by decide⟩)) ?_) q
    have e : ((t : Int) - 1).toNat = t - 1 := by omega
    rw [e, Int.one_mul]
    unfold ni
    norm_cast
theorem sv_set_of {t : Nat} {H : Hp} (h1 : 1 ≤ t) (h2 : t ≤ 1000) : SpV sp_set_of [ni t] H (ni (2 ^ (t - 1))) := fun H1 e Q q E => ⟨t, rfl, h1, h2, q⟩
/-! has -/
def sp_has : Sp := fun vs H Q _ => ∃ c t : Nat, vs = [ni c, ni t] ∧ c < 32 ∧ 1 ≤ t ∧ t ≤ 5 ∧ RetV (.bl (Dr01.has c t)) H Q
theorem ok_has (T : Txt K mg A) (k : Nat) : Ok P w K mg base "has" ["chosen", "thing"] (k + 2) sp_has := by
  have o_set_of := ok_set_of (P := P) (w := w) (base := base) T k
  refine ok_of T.h_has sc_has (fun vs H Q E h => ?_) (fun f cdv A outer s H vs Q E hr h => ?_)
  · obtain ⟨c, t, rfl, _⟩ := h
    rfl
  · obtain ⟨c, t, rfl, hc, h1, h2, q⟩ := h
    refine ⟨_, pss_one (ps_ret (pe_cmpR op_ne (pe_op op_and (pv 0) (pe_ok o_set_of hr (by rfl) (pa_cons (pv 1) pa_nil))) pe_int (nomark _))), ?_⟩
    refine s_ret (ev_is (ev_op (ev_andN (ev_var rfl) (ev_call (ea_cons (ev_var rfl) ea_nil) (sv_set_of h1 (by omega)))) ev_c (rv_ne rfl)) ?_) q
    rw [← and_has hc (by omega) h1]
    unfold ni
    congr 1
    rw [Bool.eq_iff_iff]
    simp <;> omega
theorem sv_has {c t : Nat} {H : Hp} (hc : c < 32) (h1 : 1 ≤ t) (h2 : t ≤ 5) : SpV sp_has [ni c, ni t] H (.bl (Dr01.has c t)) := fun H1 e Q q E => ⟨c, t, rfl, hc, h1, h2, q⟩
/-! things_up_to -/
def sp_things_up_to : Sp := fun vs H Q _ => ∃ n : Nat, vs = [ni n] ∧ n ≤ 1000 ∧ RetL (nv ((List.range n).map fun i => i + 1)) H Q
theorem ok_things_up_to (T : Txt K mg A) (k : Nat) : Ok P w K mg base "things_up_to" ["n"] (k + 1) sp_things_up_to := by
  refine ok_of T.h_things_up_to sc_things_up_to (fun vs H Q E h => ?_) (fun f cdv A outer s H vs Q E hr h => ?_)
  · obtain ⟨t, rfl, _⟩ := h
    rfl
  · obtain ⟨n, rfl, h1, q⟩ := h
    refine ⟨_, pss_one (ps_ret (pe_listRg rfl (by rfl) T.b_list (prg_2 (by rfl) T.b_range pe_int (pe_op op_add (pv 0) pe_int)))), ?_⟩
    refine s_retL (el_rg ev_c (ev_op (ev_var rfl) ev_c rv_I0) (RgOk.of_le (by omega) (by omega) (by omega) (by omega))) (fun p H1 hp e h2 => q p H1 hp e ?_)
    have e : ((n : Int) + 1 - 1).toNat = n := by omega
    rw [h2, nv, rgV, List.map_map, e]
    refine congrArg (fun l => some (HO.lst l)) (List.map_congr_left fun i _ => ?_)
    show V.int (1 + (i : Int)) = V.int ((i + 1 : Nat) : Int)
    congr 1
    omega
theorem sl_things_up_to {n : Nat} {H : Hp} (h : n ≤ 1000) : SpL sp_things_up_to [ni n] H (nv ((List.range n).map fun i => i + 1)) := fun H1 e Q q E => ⟨n, rfl, h, q⟩
/-! brings -/
def sp_brings (K : PySem.W.Frag) : Sp := fun vs H Q _ => ∃ (a : Addr) (f : Dr01.Fun) (t c : Nat), vs = [.ref a, ni t, ni c] ∧ SqL K H a (iv f.vals) ∧ Wf f ∧ 1 ≤ t ∧ t ≤ f.many ∧ c < 2 ^ f.many ∧ RetV (.int (Dr01.brings f c t)) H Q
theorem ok_brings (T : Txt K mg A) (k : Nat) : Ok P w K mg base "brings" ["function", "thing", "chosen"] (k + 2) (sp_brings K) := by
  have o_set_of := ok_set_of (P := P) (w := w) (base := base) T k
  refine ok_of T.h_brings sc_brings (fun vs H Q E h => ?_) (fun f cdv A outer s H vs Q E hr h => ?_)
  · obtain ⟨a, f, t, c, rfl, _⟩ := h
    rfl
  · obtain ⟨a, f, t, c, rfl, hs, wf, h1, h2, hc, q⟩ := h
    refine ⟨_, pss_one (ps_ret (pe_op op_sub (pe_ix ix_list (pv 0) (pe_op op_or (pv 2) (pe_ok o_set_of hr (by rfl) (pa_cons (pv 1) pa_nil))) (fun _ _ => rfl)) (pe_ix ix_list (pv 0) (pv 2) (fun _ _ => rfl)))), ?_⟩
    have hm := wf.hi
    have e1 : (iv f.vals)[Dr01.with_ c t]? = some (.int (Dr01.val f (Dr01.with_ c t))) := by
      rw [iv, List.getElem?_map, wf.at (wf.with hc h1 h2)]
      rfl
    have e2 : (iv f.vals)[c]? = some (.int (Dr01.val f c)) := by
      rw [iv, List.getElem?_map, wf.at hc]
      rfl
    rw [← or_with (wf.lt hc) (by omega) h1] at e1
    refine s_ret (ev_is (ev_op (ev_ixN (ev_var rfl) (ev_orN (ev_var rfl) (ev_call (ea_cons (ev_var rfl) ea_nil) (sv_set_of h1 (by omega)))) hs e1) (ev_ixN (ev_var rfl) (ev_var rfl) hs e2) rv_I0) ?_) q
    rw [or_with (wf.lt hc) (by omega) h1]
    rfl
theorem sv_brings {a : Addr} {f : Dr01.Fun} {t c : Nat} {H : Hp} (hs : SqL K H a (iv f.vals)) (wf : Wf f) (h1 : 1 ≤ t) (h2 : t ≤ f.many) (hc : c < 2 ^ f.many) : SpV (sp_brings K) [.ref a, ni t, ni c] H (.int (Dr01.brings f c t)) :=
  fun H1 e Q q E => ⟨a, f, t, c, rfl, ex_l e hs, wf, h1, h2, hc, q⟩
theorem nv_get {l : List Nat} {i : Nat} {x : V} (h : (nv l)[i]? = some x) : ∃ n, l[i]? = some n ∧ x = ni n := by
  rw [nv, List.getElem?_map] at h
  cases e : l[i]? with
  | none => rw [e] at h; cases h
  | some n => rw [e] at h; exact ⟨n, rfl, (Option.some.inj h).symm⟩
theorem iv_get {l : List Int} {i : Nat} {x : V} (h : (iv l)[i]? = some x) : ∃ n, l[i]? = some n ∧ x = .int n := by
  rw [iv, List.getElem?_map] at h
  cases e : l[i]? with
  | none => rw [e] at h; cases h
  | some n => rw [e] at h; exact ⟨n, rfl, (Option.some.inj h).symm⟩
/-! never_brings_more -/
theorem all_take {α : Type} {p : α → Bool} {l : List α} {i : Nat} {x : α} (h : l[i]? = some x) : (l.take (i + 1)).all p = ((l.take i).all p && p x) := by
  rw [List.take_add_one, h, List.all_append]
  simp
theorem all_no {α : Type} {p : α → Bool} {l : List α} {i : Nat} {x : α} (h : l[i]? = some x) (hp : p x = false) : l.all p = false := by
  rw [List.all_eq_false]
  exact ⟨x, List.mem_of_getElem? h, by rw [hp]; decide⟩
def sp_never_brings_more (K : PySem.W.Frag) : Sp := fun vs H Q _ => ∃ (a b : Addr) (f : Dr01.Fun) (c : Nat) (out : List Nat), vs = [.ref a, ni c, .ref b] ∧ SqL K H a (iv f.vals) ∧ SqL K H b (nv out) ∧ Wf f ∧ c < 2 ^ f.many ∧ (∀ t ∈ out, 1 ≤ t ∧ t ≤ f.many) ∧ RetV (.bl (nbm f c out)) H Q
theorem ok_never_brings_more (T : Txt K mg A) (k : Nat) : Ok P w K mg base "never_brings_more" ["function", "chosen", "outside"] (k + 3) (sp_never_brings_more K) := by
  have o_set_of := ok_set_of (P := P) (w := w) (base := base) T (k + 1)
  have o_brings := ok_brings (P := P) (w := w) (base := base) T k
  refine ok_of T.h_never_brings_more sc_never_brings_more (fun vs H Q E h => ?_) (fun f cdv A outer s H vs Q E hr h => ?_)
  · obtain ⟨a, b, f, c, out, rfl, _⟩ := h
    rfl
  · obtain ⟨a, b, f, c, out, rfl, ha, hb, wf, hc, ho, q⟩ := h
    refine ⟨_, pss_cons (ps_for PassesOwn.never rfl (pi_list (pv 2)) (pg_name (i := 3) sc_never_brings_more.nd rfl (.inl rfl)) (pss_cons (ps_set (i := 4) sc_never_brings_more.nd rfl (.inl rfl) (pe_op op_or (pv 1) (pe_ok o_set_of hr (by rfl) (pa_cons (pv 3) pa_nil))))
      (pss_one (ps_for PassesOwn.never rfl (pi_list (pv 2)) (pg_name (i := 5) sc_never_brings_more.nd rfl (.inl rfl)) (pss_one (ps_if (PW.pt (pw_and (pt_cmpR op_ne (pv 5) (pv 3) (nomark _)) (pw_and1 (pt_cmpR op_gt (pe_ok o_brings hr (by rfl) (pa_cons (pv 0) (pa_cons (pv 5) (pa_cons (pv 4) pa_nil)))) (pe_ok o_brings hr (by rfl) (pa_cons (pv 0) (pa_cons (pv 5) (pa_cons (pv 1) pa_nil)))) (nomark _))))) (pss_one (ps_ret pe_bl)) pss_nil))))))
      (pss_one (ps_ret pe_bl)), ?_⟩
    have hm := wf.hi
    refine q_forLn (ev_var rfl) hb (fun i σ' H' => Ex H H' ∧ (∃ u v w, σ' = [some (.ref a), some (ni c), some (.ref b), u, v, w]) ∧ ((out.take i).all fun o => out.all fun t => !worse f c o t) = true)
      (fun H1 e1 => ⟨e1, ⟨none, none, none, rfl⟩, rfl⟩) (fun i σ' H' _ p => ex_l p.1 hb) (fun i x σ' H' hi p => ?_) (fun σ' H' p => ?_)
    · obtain ⟨e1, ⟨u, v, w, rfl⟩, hall⟩ := p
      obtain ⟨o, hio, rfl⟩ := nv_get hi
      obtain ⟨ho1, ho2⟩ := ho o (List.mem_of_getElem? hio)
      refine q_asg (v := ni (Dr01.with_ c o)) (ev_is (ev_orN (ev_var rfl) (ev_call (ea_cons (ev_var rfl) ea_nil) (sv_set_of ho1 (by omega)))) (by rw [or_with (wf.lt hc) (by omega) ho1])) (fun H2 e2 => ?_)
      refine s_forLn (ev_var rfl) (ex_l (e1.trans e2) hb) (fun j σ'' H'' => Ex H H'' ∧ (∃ w, σ'' = [some (.ref a), some (ni c), some (.ref b), some (ni o), some (ni (Dr01.with_ c o)), w]) ∧ ((out.take j).all fun t => !worse f c o t) = true)
        (fun H3 e3 => ⟨(e1.trans e2).trans e3, ⟨w, rfl⟩, rfl⟩) (fun j σ'' H'' _ p => ex_l p.1 hb) (fun j y σ'' H'' hj p => ?_) (fun σ'' H'' p => ?_)
      · obtain ⟨e3, ⟨w', rfl⟩, hall2⟩ := p
        obtain ⟨t, hjt, rfl⟩ := nv_get hj
        obtain ⟨ht1, ht2⟩ := ho t (List.mem_of_getElem? hjt)
        have hs3 := ex_l e3 ha
        refine s_when (et_is (et_and (ev_neI (ev_var rfl) (ev_var rfl)) (fun _ => et_test (ev_op (ev_call (ea_cons (ev_var rfl) (ea_cons (ev_var rfl) (ea_cons (ev_var rfl) ea_nil))) (sv_brings hs3 wf ht1 ht2 (wf.with hc ho1 ho2))) (ev_call (ea_cons (ev_var rfl) (ea_cons (ev_var rfl) (ea_cons (ev_var rfl) ea_nil))) (sv_brings hs3 wf ht1 ht2 hc)) rv_I0))) (b := worse f c o t) ?_) (fun hw H4 e4 => ?_) (fun hw H4 e4 => ?_)
        · unfold worse
          congr 1
          simp
          omega
        · refine s_ret ev_c (fun H5 e5 => ?_)
          have hn : nbm f c out = false := all_no hio (all_no hjt (by rw [hw]; rfl))
          rw [hn] at q
          exact q H5 ((e3.trans e4).trans e5)
        · refine ⟨e3.trans e4, ⟨_, rfl⟩, ?_⟩
          rw [all_take hjt, hall2, hw]
          rfl
      · obtain ⟨e3, ⟨w', rfl⟩, hall2⟩ := p
        refine ⟨e3, ⟨_, _, _, rfl⟩, ?_⟩
        rw [nv, List.length_map, List.take_length] at hall2
        rw [all_take hio, hall, hall2]
        rfl
    · obtain ⟨e1, ⟨u, v, w, rfl⟩, hall⟩ := p
      rw [nv, List.length_map, List.take_length] at hall
      have hn : nbm f c out = true := hall
      rw [hn] at q
      exact s_ret ev_c (fun H5 e5 => q H5 (e1.trans e5))
theorem sv_never_brings_more {a b : Addr} {f : Dr01.Fun} {c : Nat} {out : List Nat} {H : Hp} (ha : SqL K H a (iv f.vals)) (hb : SqL K H b (nv out)) (wf : Wf f) (hc : c < 2 ^ f.many) (ho : ∀ t ∈ out, 1 ≤ t ∧ t ≤ f.many) : SpV (sp_never_brings_more K) [.ref a, ni c, .ref b] H (.bl (nbm f c out)) :=
  fun H1 e Q q E => ⟨a, b, f, c, out, rfl, ex_l e ha, ex_l e hb, wf, hc, ho, q⟩
end
end Sh
namespace Sh
open PySem PySem.Spec PyProof.Rows L2 Evl
section
variable {K : PySem.W.Frag} {σ : L2.St} {H H' : Hp} {ta tb te tl : TE} {t : TT} {x y z v : V}
theorem ev_lenL {p : Addr} {xs : List V} (ha : Ev ta σ H (.ref p)) (h : SqL K H p xs) {r : List V → Hp → VK → Prop} (hr : r = fun xs H Q => ∃ p ys, xs = [.ref p] ∧ (SqL K H p ys ∨ SqT K H p ys) ∧ Q (.int ys.length) H) : Ev (tCB r (tCons ta tNil)) σ H (ni xs.length) := by
  subst hr
  exact ev_len ha h
theorem el_rep {xs : List V} {k : Nat} (ha : EvL ta σ H xs) (hb : Ev tb σ H (ni k)) (hz : xs.length * k ≤ 40000) (hk : k ≤ 40000) : EvL (tOp rRep ta tb) σ H (List.replicate k xs).flatten := fun H1 e Q q =>
  ha H1 e _ fun p H2 np e2 hp => hb H2 (e.trans e2) _ fun H3 e3 => ⟨p, (k : Int), xs, rfl, rfl, e3 _ _ hp, by omega, by omega, by rw [Int.toNat_natCast]; exact sz_of (by omega), fun r hr => by
    rw [Int.toNat_natCast]
    exact q r _ (fresh_back (e2.trans e3) hr) ((e2.trans e3).trans (Ex.new hr)) upd_same⟩
theorem el_cat {a b : Addr} {xs ys : List V} (ha : Ev ta σ H (.ref a)) (hb : Ev tb σ H (.ref b)) (sa : H a = some (.lst xs)) (sb : H b = some (.lst ys)) (hz : xs.length + ys.length ≤ 40000) : EvL (tOp rCat ta tb) σ H (xs ++ ys) := fun H1 e Q q =>
  ha H1 e _ fun H2 e2 => hb H2 (e.trans e2) _ fun H3 e3 => ⟨a, b, xs, ys, rfl, rfl, ((e.trans e2).trans e3) _ _ sa, ((e.trans e2).trans e3) _ _ sb, sz_of (by omega), fun r hr => q r _ (fresh_back (e2.trans e3) hr) ((e2.trans e3).trans (Ex.new hr)) upd_same⟩
theorem el_catNL {b : Addr} {xs ys : List V} (ha : EvL ta σ H xs) (hb : Ev tb σ H (.ref b)) (sb : H b = some (.lst ys)) (hz : xs.length + ys.length ≤ 40000) : EvL (tOp rCat ta tb) σ H (xs ++ ys) := fun H1 e Q q =>
  ha H1 e _ fun a H2 na e2 ha => hb H2 (e.trans e2) _ fun H3 e3 => ⟨a, b, xs, ys, rfl, rfl, e3 _ _ ha, ((e.trans e2).trans e3) _ _ sb, sz_of (by omega), fun r hr => q r _ (fresh_back (e2.trans e3) hr) ((e2.trans e3).trans (Ex.new hr)) upd_same⟩
theorem el_catNN {xs ys : List V} (ha : EvL ta σ H xs) (hb : EvL tb σ H ys) (hz : xs.length + ys.length ≤ 40000) : EvL (tOp rCat ta tb) σ H (xs ++ ys) := fun H1 e Q q =>
  ha H1 e _ fun a H2 na e2 ha => hb H2 (e.trans e2) _ fun b H3 nb e3 hb => ⟨a, b, xs, ys, rfl, rfl, e3 _ _ ha, hb, sz_of (by omega), fun r hr => q r _ (fresh_back (e2.trans e3) hr) ((e2.trans e3).trans (Ex.new hr)) upd_same⟩
theorem evens_map {α : Type} (g : Nat → α) : ∀ l : List Nat, evens (l.map g) = (evensN l).map g
  | [] => rfl
  | [x] => rfl
  | x :: y :: r => by
    show g x :: evens (r.map g) = g x :: (evensN r).map g
    rw [evens_map g r]
theorem evensN_len : ∀ l : List Nat, (evensN l).length = (l.length + 1) / 2
  | [] => rfl
  | [x] => by simp [evensN]
  | x :: y :: r => by
    show (evensN r).length + 1 = (r.length + 1 + 1 + 1) / 2
    rw [evensN_len r]
    omega
end
section
variable {P : Program} {w : World} {K : PySem.W.Frag} {mg : Str → Option Value} {base : Heap} {A : Adr}
/-! is_of_this_kind -/
def sp_is_of_this_kind (K : PySem.W.Frag) : Sp := fun vs H Q _ => ∃ (a : Addr) (f : Dr01.Fun), vs = [.ref a, ni f.many] ∧ SqL K H a (iv f.vals) ∧ Wf f ∧ RetV (.bl (Dr02.fits f)) H Q
theorem ok_is_of_this_kind (T : Txt K mg A) (k : Nat) : Ok P w K mg base "is_of_this_kind" ["function", "n"] (k + 4) (sp_is_of_this_kind K) := by
  have o_has := ok_has (P := P) (w := w) (base := base) T (k + 1)
  have o_things_up_to := ok_things_up_to (P := P) (w := w) (base := base) T (k + 2)
  have o_never_brings_more := ok_never_brings_more (P := P) (w := w) (base := base) T k
  refine ok_of T.h_is_of_this_kind sc_is_of_this_kind (fun vs H Q E h => ?_) (fun f cdv A outer s H vs Q E hr h => ?_)
  · obtain ⟨a, f, rfl, _⟩ := h
    rfl
  · obtain ⟨a, f, rfl, ha, wf, q⟩ := h
    refine ⟨_, pss_cons (ps_if (pt_cmpR op_ne (pe_ix ix_list (pv 0) pe_int (fun _ _ => rfl)) pe_int (nomark _)) (pss_one (ps_ret pe_bl)) pss_nil)
      (pss_cons (ps_for PassesOwn.never rfl (pi_range1 (by rfl) T.b_range (pa_cons (pe_callB call_len_seq (by rfl) T.b_len PySem.boot_len (pa_cons (pv 0) pa_nil)) pa_nil)) (pg_name (i := 2) sc_is_of_this_kind.nd rfl (.inr rfl)) (pss_cons (ps_setLc (i := 3) (own := [("thing", 4)]) (g := gName 4) rfl sc_is_of_this_kind.nd rfl rfl (sw_true rfl rfl rfl (by decide +kernel)) (pi_list (pe_ok o_things_up_to hr (by rfl) (pa_cons (pv 1) pa_nil))) (blkOk_by (own := [("thing", 4)]) (N := ["function", "n", "chosen", "outside", "thing"]) (sc := defScope s_is_of_this_kind) (by decide +kernel)) (fun _ _ _ _ _ => (pg_name (i := 4) sc_is_of_this_kind.nd rfl (.inl rfl))) (fun _ _ _ _ _ => (pts_one (pt_not (pt_val (pe_ok o_has hr (by rfl) (pa_cons (pv 2) (pa_cons (pv 4) pa_nil))))))) (fun _ _ _ _ _ => (pv 4)))
      (pss_one (ps_if (pt_not (pt_val (pe_ok o_never_brings_more hr (by rfl) (pa_cons (pv 0) (pa_cons (pv 2) (pa_cons (pv 3) pa_nil)))))) (pss_one (ps_ret pe_bl)) pss_nil))))
      (pss_one (ps_ret pe_bl))), ?_⟩
    have hm := wf.hi
    have h0 : (iv f.vals)[0]? = some (.int (Dr01.val f 0)) := by
      rw [iv, List.getElem?_map, wf.at (Nat.pos_of_ne_zero (by simp))]
      rfl
    rw [fits_eq wf] at q
    refine q_when (ev_neI (ev_ixN (i := 0) (ev_var rfl) ev_c ha h0) ev_c) (fun hb H1 e1 => ?_) (fun hb H1 e1 => ?_)
    · have hk : kindB f = false := by
        unfold kindB
        rw [decide_eq_false (of_decide_eq_true hb)]
        rfl
      rw [hk] at q
      exact s_ret ev_c (fun H2 e2 => q H2 (e1.trans e2))
    · have hv : Dr01.val f 0 = 0 := Decidable.of_not_not (of_decide_eq_false hb)
      have hlen : (iv f.vals).length = 2 ^ f.many := by rw [iv, List.length_map, wf.len]
      refine q_forR1 (n := ((2 ^ f.many : Nat) : Int)) (ea_cons (ev_is (ev_lenL (ev_var rfl) (ex_l e1 ha) rfl) (by rw [hlen]; rfl)) ea_nil) ⟨by omega, by have := pow_le wf.hi; omega⟩
        (fun i σ' H' => Ex H H' ∧ (∃ u v w, σ' = [some (.ref a), some (ni f.many), u, v, w]) ∧ ((List.range i).all fun c => nbm f c (outs f c)) = true) (fun H2 e2 => ⟨e1.trans e2, ⟨_, _, _, rfl⟩, rfl⟩) (fun i σ' H' hi p => ?_) (fun σ' H' p => ?_)
      · obtain ⟨e2, ⟨u, v, w, rfl⟩, hall⟩ := p
        have hi' : i < 2 ^ f.many := by omega
        refine q_asgL (el_mapN (l := (List.range f.many).map fun i => i + 1) (fun t => !Dr01.has i t) ni (el_call (ea_cons (ev_var rfl) ea_nil) (sl_things_up_to (by omega))) (by simp; omega) (fun _ => rfl) (fun t ht => ?_) (fun t ht _ => ev_var rfl)) (fun p H3 hp e3 h3 => ?_)
        · have ht' : 1 ≤ t ∧ t ≤ f.many := mem_things.mp ht
          exact et_not (et_B (ev_call (ea_cons (ev_var rfl) (ea_cons (ev_var rfl) ea_nil)) (sv_has (wf.lt hi') ht'.1 (by omega))))
        · have ho : ∀ t ∈ outs f i, 1 ≤ t ∧ t ≤ f.many := fun t ht => mem_things.mp (List.mem_filter.mp ht).1
          refine s_when (et_not (et_B (ev_call (ea_cons (ev_var rfl) (ea_cons (ev_var rfl) (ea_cons (ev_var rfl) ea_nil))) (sv_never_brings_more (f := f) (c := i) (out := outs f i) (ex_l (e2.trans e3) ha) (sq_of h3) wf hi' ho)))) (fun hb2 H4 e4 => ?_) (fun hb2 H4 e4 => ?_)
          · have hk : kindB f = false := by
              unfold kindB
              rw [all_no (i := i) (x := i) (List.getElem?_range hi') (by simpa using hb2)]
              simp
            rw [hk] at q
            exact s_ret ev_c (fun H5 e5 => q H5 (((e2.trans e3).trans e4).trans e5))
          · refine ⟨(e2.trans e3).trans e4, ⟨_, _, _, rfl⟩, ?_⟩
            rw [List.range_succ, List.all_append, hall]
            simpa using hb2
      · obtain ⟨e2, ⟨u, v, w, rfl⟩, hall⟩ := p
        rw [Int.toNat_natCast] at hall
        have hk : kindB f = true := by
          unfold kindB
          rw [hall, hv]
          rfl
        rw [hk] at q
        exact s_ret ev_c (fun H5 e5 => q H5 (e2.trans e5))
theorem sv_is_of_this_kind {a : Addr} {f : Dr01.Fun} {H : Hp} (ha : SqL K H a (iv f.vals)) (wf : Wf f) : SpV (sp_is_of_this_kind K) [.ref a, ni f.many] H (.bl (Dr02.fits f)) := fun H1 e Q q E => ⟨a, f, rfl, ex_l e ha, wf, q⟩
/-! is_points -/
theorem tl_get : ∀ {n : Nat}, n < 6 → 1 ≤ n → (iv [2, 4, 8, 16, 32])[n - 1]? = some (ni (2 ^ n)) := by
  intro n h1 h2
  have : n = 1 ∨ n = 2 ∨ n = 3 ∨ n = 4 ∨ n = 5 := by omega
  rcases this with rfl | rfl | rfl | rfl | rfl <;> rfl
def sp_is_points (K : PySem.W.Frag) : Sp := fun vs H Q _ => ∃ (a : Addr) (n : Nat) (l : List Nat), vs = [ni n, .ref a] ∧ SqL K H a (nv l) ∧ 1 ≤ n ∧ n ≤ 5 ∧ l.length ≤ 40000 ∧ RetV (.bl (pointsB n l)) H Q
theorem ok_is_points (T : Txt K mg A) (k : Nat) : Ok P w K mg base "is_points" ["n", "row"] (k + 2) (sp_is_points K) := by
  have o_is_within := ok_is_within (P := P) (w := w) (base := base) T k
  refine ok_of T.h_is_points sc_is_points (fun vs H Q E h => ?_) (fun f cdv A outer s H vs Q E hr h => ?_)
  · obtain ⟨a, n, l, rfl, _⟩ := h
    rfl
  · obtain ⟨a, n, l, rfl, ha, h1, h2, hl, q⟩ := h
    refine ⟨_, pss_cons (ps_if (PW.pt (pw_or (pt_cmpR op_ne (pe_op op_mod (pe_callB call_len_seq (by rfl) T.b_len PySem.boot_len (pa_cons (pv 1) pa_nil)) pe_int) pe_int (nomark _)) (pw_or1 (pt_cmpR op_gt (pe_callB call_len_seq (by rfl) T.b_len PySem.boot_len (pa_cons (pv 1) pa_nil)) (pe_op op_mul pe_int (pe_gi rfl T.c_MOST_POINTS)) (nomark _))))) (pss_one (ps_ret pe_bl)) pss_nil)
      (pss_one (ps_ret (pe_and (pe_ok o_is_within hr (by rfl) (pa_cons (pe_sliceS (pv 1) (po_some pe_int) po_none (po_some pe_int)) (pa_cons (pe_gi rfl T.c_MOST_WEIGHT) pa_nil))) (pe_one (pe_ok o_is_within hr (by rfl) (pa_cons (pe_sliceS (pv 1) (po_some pe_int) po_none (po_some pe_int)) (pa_cons (pe_op op_sub (pe_ix ix_tup (pe_gr rfl T.c_TABLE_LENGTHS) (pe_op op_sub (pv 0) pe_int) (fun _ _ => rfl)) pe_int) pa_nil))))))), ?_⟩
    have hlen : ((nv l).length : Int) = (l.length : Int) := by rw [nv, List.length_map]
    have hev : evens (nv l) = nv (evensN l) := evens_map ni l
    have hod : evens ((nv l).drop 1) = nv (evensN (l.drop 1)) := by rw [nv, ← List.map_drop]; exact evens_map ni _
    refine q_when (b := decide (l.length % 2 ≠ 0) || decide (40 < l.length)) (et_is (et_or (ev_neI (ev_op (ev_lenL (ev_var rfl) ha rfl) ev_c (rv_I (by decide))) ev_c) (fun _ => et_test (ev_op (ev_lenL (ev_var rfl) ha rfl) (ev_op ev_c ev_c (rv_I (.inl ⟨by decide, by decide⟩))) rv_I0))) ?_) (fun hb H1 e1 => ?_) (fun hb H1 e1 => ?_)
    · rw [hlen, Bool.eq_iff_iff]
      simp
      omega
    · have hk : pointsB n l = false := by
        unfold pointsB
        rcases Bool.or_eq_true_iff.mp hb with h | h
        · have := of_decide_eq_true h
          rw [decide_eq_false this]
          rfl
        · have := of_decide_eq_true h
          rw [decide_eq_false (show ¬ l.length ≤ 40 by omega)]
          simp
      rw [hk] at q
      exact s_ret ev_c (fun H2 e2 => q H2 (e1.trans e2))
    · obtain ⟨hb1, hb2⟩ := Bool.or_eq_false_iff.mp hb
      have hb1' : l.length % 2 = 0 := Decidable.of_not_not (of_decide_eq_false hb1)
      have hb2' : l.length ≤ 40 := by have := of_decide_eq_false hb2; omega
      have hk : pointsB n l = (((evensN l).all fun z => decide (z ≤ 1000)) && ((evensN (l.drop 1)).all fun z => decide (z ≤ 2 ^ n - 1))) := by
        unfold pointsB
        rw [decide_eq_true hb1', decide_eq_true hb2']
        rfl
      rw [hk] at q
      have hp : 0 < 2 ^ n := Nat.pos_of_ne_zero (by simp)
      refine s_ret (ev_andV (ev_call2L (xs := nv (evensN l)) (y := ni 1000) (by rw [← hev, ← pick_evens]; exact el_slS (ev_var rfl) (eo_some ev_c) eo_none (eo_some ev_c) (ex_l e1 ha) (by decide)) ev_c (fun p H2 h2 e2 => sv_is_within (sq_of h2) (by rw [evensN_len]; omega)))
        (fun _ => ev_call2L (xs := nv (evensN (l.drop 1))) (y := ni (2 ^ n - 1)) (by rw [← hod, ← pick_odds]; exact el_slS (ev_var rfl) (eo_some ev_c) eo_none (eo_some ev_c) (ex_l e1 ha) (by decide))
          (ev_is (ev_op (ev_op ev_c (ev_op (ev_var rfl) ev_c rv_I0) (rv_ixT (T.t_TABLE_LENGTHS _) (at_of (j := n - 1) (by show (n : Int) - 1 = _; omega) (tl_get (by omega) h1)))) ev_c rv_I0) ?_) (fun p H2 h2 e2 => sv_is_within (sq_of h2) (by rw [evensN_len]; simp; omega)))) (fun H2 e2 => q H2 (e1.trans e2))
      show V.int (((2 ^ n : Nat) : Int) - 1) = V.int ((2 ^ n - 1 : Nat) : Int)
      congr 1
      omega
theorem sv_is_points {a : Addr} {n : Nat} {l : List Nat} {H : Hp} (ha : SqL K H a (nv l)) (h1 : 1 ≤ n) (h2 : n ≤ 5) (hl : l.length ≤ 40000) : SpV (sp_is_points K) [ni n, .ref a] H (.bl (pointsB n l)) := fun H1 e Q q E => ⟨a, n, l, rfl, ex_l e ha, h1, h2, hl, q⟩
/-! weight_met -/
def sp_weight_met (K : PySem.W.Frag) : Sp := fun vs H Q _ => ∃ (a : Addr) (c : Nat) (l : List Nat), vs = [.ref a, ni c] ∧ SqL K H a (nv l) ∧ l.length % 2 = 0 ∧ l.length ≤ 40000 ∧ RetV (.int (wmet l c)) H Q
theorem ok_weight_met (T : Txt K mg A) (k : Nat) : Ok P w K mg base "weight_met" ["points", "chosen"] (k + 1) (sp_weight_met K) := by
  refine ok_of T.h_weight_met sc_weight_met (fun vs H Q E h => ?_) (fun f cdv A outer s H vs Q E hr h => ?_)
  · obtain ⟨a, n, l, rfl, _⟩ := h
    rfl
  · obtain ⟨a, c, l, rfl, ha, h0, hl, q⟩ := h
    refine ⟨_, pss_one (ps_ret (pe_callB (cr_sum rfl) (by rfl) T.b_sum (by decide +kernel) (pa_cons (pe_lc (own := [("weight", 2), ("reach", 3)]) (g := gTwo K 2 3) rfl sc_weight_met.nd (pi_zip (by rfl) T.b_zip (pa_cons (pe_sliceS (pv 0) (po_some pe_int) po_none (po_some pe_int)) (pa_cons (pe_sliceS (pv 0) (po_some pe_int) po_none (po_some pe_int)) pa_nil))) (blkOk_by (own := [("weight", 2), ("reach", 3)]) (N := ["points", "chosen", "weight", "reach"]) (sc := defScope s_weight_met) (by decide +kernel)) (fun _ _ _ _ _ => by exact (pg_tup rfl (pgs_cons (pg_name (i := 2) sc_weight_met.nd rfl (.inl rfl)) (pgs_cons (pg_name (i := 3) sc_weight_met.nd rfl (.inl rfl)) pgs_nil)))) (fun _ _ _ _ _ => (pts_one (pt_cmpR op_ne (pe_op op_and (pv 3) (pv 1)) pe_int (nomark _)))) (fun _ _ _ _ _ => (pv 2))) pa_nil))), ?_⟩
    have hev : evens (nv l) = nv (evensN l) := evens_map ni l
    have hod : evens ((nv l).drop 1) = nv (evensN (l.drop 1)) := by rw [nv, ← List.map_drop]; exact evens_map ni _
    have hle : (evensN l).length = (evensN (l.drop 1)).length := by rw [evensN_len, evensN_len, List.length_drop]; omega
    have hpl : (pointsOf l).length = (evensN l).length := by unfold pointsOf; rw [List.length_zip, ← hle, Nat.min_self]
    have hget : ∀ (k : Nat) (x y : V), (nv (evensN l))[k]? = some x → (nv (evensN (l.drop 1)))[k]? = some y → ∃ p, (pointsOf l)[k]? = some p ∧ x = ni p.1 ∧ y = ni p.2 := fun k x y hx hy => by
      obtain ⟨m, hm, rfl⟩ := nv_get hx
      obtain ⟨r, hr, rfl⟩ := nv_get hy
      exact ⟨(m, r), List.getElem?_zip_eq_some.mpr ⟨hm, hr⟩, rfl, rfl⟩
    refine s_ret (ev_sumN (ns := wnums l c) ?_) q
    have key := el_zipN (K := K) (t := tTest (tOp rNe (tOp (rI0 fun i j => .int (Builtin.bitAnd i j)) (tVar 3) (tVar 1)) (tC (.int 0)))) (te := tVar 2) (σ := start ["points", "chosen", "weight", "reach"] [.ref a, ni c]) (H := H) (i := 2) (j := 3) (vs := [2, 3]) (xs := nv (evensN l)) (ys := nv (evensN (l.drop 1))) (ta := tSlS K (tVar 0) (tPart (tC (.int 0))) tNoPart (tPart (tC (.int 2)))) (tb := tSlS K (tVar 0) (tPart (tC (.int 1))) tNoPart (tPart (tC (.int 2))))
      (fun k => (((pointsOf l)[k]?).map fun p => decide (p.2 &&& c ≠ 0)).getD false) (fun k => (((pointsOf l)[k]?).map fun p => ni p.1).getD .non)
      (by rw [← hev, ← pick_evens]; exact el_slS (ev_var rfl) (eo_some ev_c) eo_none (eo_some ev_c) ha (by decide)) (by rw [← hod, ← pick_odds]; exact el_slS (ev_var rfl) (eo_some ev_c) eo_none (eo_some ev_c) ha (by decide))
      (by rw [nv, nv, List.length_map, List.length_map]; exact hle) (by rw [nv, List.length_map, evensN_len]; omega) (fun _ _ => rfl)
      (fun k x y hx hy => by
        obtain ⟨p, hp, rfl, rfl⟩ := hget k x y hx hy
        refine et_is (ev_neI (ev_andN (a := p.2) (b := c) (ev_var rfl) (ev_var rfl)) ev_c) ?_
        rw [hp, Bool.eq_iff_iff]
        simp <;> omega)
      (fun k x y hx hy _ => by
        obtain ⟨p, hp, rfl, rfl⟩ := hget k x y hx hy
        rw [hp]
        exact ev_var rfl)
    rw [nv, List.length_map, ← hpl, given_all (l := pointsOf l) (p := fun p => decide (p.2 &&& c ≠ 0)) (v := fun p => ni p.1) (fun i x h => by rw [h]; rfl) (fun i x h => by rw [h]; rfl)] at key
    rw [iv, wnums, List.map_map]
    exact key
theorem sv_weight_met {a : Addr} {c : Nat} {l : List Nat} {H : Hp} (ha : SqL K H a (nv l)) (h0 : l.length % 2 = 0) (hl : l.length ≤ 40000) : SpV (sp_weight_met K) [.ref a, ni c] H (.int (wmet l c)) := fun H1 e Q q E => ⟨a, c, l, rfl, ex_l e ha, h0, hl, q⟩
end
end Sh
namespace Sh
open PySem PySem.Spec PyProof.Rows L2 Evl
section
variable {P : Program} {w : World} {K : PySem.W.Frag} {mg : Str → Option Value} {base : Heap} {A : Adr}
/-! base_by_order -/
def sp_base_by_order (K : PySem.W.Frag) : Sp := fun vs H Q _ => ∃ (a b : Addr) (f : Dr01.Fun) (l : List Nat), vs = [.ref a, .ref b] ∧ SqL K H a (iv f.vals) ∧ SqL K H b (nv l) ∧ Wf f ∧ l.Perm (Dr01.things f) ∧ RetL (iv (Dr02.vertex f l)) H Q
theorem ok_base_by_order (T : Txt K mg A) (k : Nat) : Ok P w K mg base "base_by_order" ["function", "things"] (k + 3) (sp_base_by_order K) := by
  have o_set_of := ok_set_of (P := P) (w := w) (base := base) T (k + 1)
  have o_brings := ok_brings (P := P) (w := w) (base := base) T k
  refine ok_of T.h_base_by_order sc_base_by_order (fun vs H Q E h => ?_) (fun f cdv A outer s H vs Q E hr h => ?_)
  · obtain ⟨a, b, f, l, rfl, _⟩ := h
    rfl
  · obtain ⟨a, b, f, l, rfl, ha, hb, wf, hp, q⟩ := h
    refine ⟨_, pss_cons (ps_set (i := 2) sc_base_by_order.nd rfl (.inl rfl) (pe_op op_rep (pe_lst (pa_cons pe_int pa_nil)) (pe_callB call_len_seq (by rfl) T.b_len PySem.boot_len (pa_cons (pv 1) pa_nil))))
      (pss_cons (ps_set (i := 3) sc_base_by_order.nd rfl (.inl rfl) pe_int)
      (pss_cons (ps_for PassesOwn.never rfl (pi_list (pv 1)) (pg_name (i := 4) sc_base_by_order.nd rfl (.inl rfl)) (pss_cons (ps_asg (pe_ok o_brings hr (by rfl) (pa_cons (pv 0) (pa_cons (pv 4) (pa_cons (pv 3) pa_nil)))) (pg_sub (pv 2) (pe_op op_sub (pv 4) pe_int) set_list))
      (pss_one (ps_set (i := 3) sc_base_by_order.nd rfl (.inl rfl) (pe_op op_or (pv 3) (pe_ok o_set_of hr (by rfl) (pa_cons (pv 4) pa_nil)))))))
      (pss_one (ps_ret (pv 2))))), ?_⟩
    have hm := wf.hi
    have hlen : l.length = f.many := by rw [hp.length_eq, things_len]
    have hin : ∀ t ∈ l, 1 ≤ t ∧ t ≤ f.many := fun t ht => mem_things.mp (hp.mem_iff.mp ht)
    have hnd : l.Nodup := hp.nodup_iff.mpr (by
      unfold Dr01.things
      exact List.Pairwise.map _ (fun a b (h : a ≠ b) => (by omega : a + 1 ≠ b + 1)) List.nodup_range)
    have hrep : (List.replicate f.many [V.int 0]).flatten = iv (Dr02.vertex f []) := by
      rw [vertex_nil, iv, List.map_replicate]
      generalize f.many = m
      induction m with
      | zero => rfl
      | succ m ih => rw [List.replicate_succ, List.flatten_cons, ih, List.replicate_succ]; rfl
    refine q_asgL (xs := iv (Dr02.vertex f [])) (by
      rw [← hrep]
      exact el_rep (k := f.many) (el_lst (ea_cons ev_c ea_nil) (by decide)) (ev_is (ev_lenL (ev_var rfl) hb rfl) (by rw [nv, List.length_map, hlen])) (by simp; omega) (by omega)) (fun p H1 np e1 h1 => ?_)
    refine q_asg ev_c (fun H2 e2 => ?_)
    refine q_forLn (ev_var rfl) (ex_l (e1.trans e2) hb) (fun i σ' H' => Ex H H' ∧ (∃ w, σ' = [some (.ref a), some (.ref b), some (.ref p), some (ni ((l.take i).foldl Dr01.with_ 0)), w]) ∧ H' p = some (.lst (iv (Dr02.vertex f (l.take i)))))
      (fun H3 e3 => ⟨(e1.trans e2).trans e3, ⟨none, rfl⟩, e3 _ _ (e2 _ _ h1)⟩) (fun i σ' H' _ p => ex_l p.1 hb) (fun i x σ' H' hi pv => ?_) (fun σ' H' pv => ?_)
    · obtain ⟨e3, ⟨w, rfl⟩, hp3⟩ := pv
      obtain ⟨t, hit, rfl⟩ := nv_get hi
      obtain ⟨ht1, ht2⟩ := hin t (List.mem_of_getElem? hit)
      have hbef : (l.take i).foldl Dr01.with_ 0 < 2 ^ f.many := fold_lt wf _ 0 (Nat.pos_of_ne_zero (by simp)) fun u hu => hin u (List.mem_of_mem_take hu)
      have hnot : t ∉ l.take i := fun hmem => by
        obtain ⟨j, hj, ej⟩ := List.mem_iff_getElem.mp hmem
        have hj' : j < i := by rw [List.length_take] at hj; omega
        have e1 : l[j]? = some t := by rw [List.getElem_take] at ej; rw [← ej]; exact List.getElem?_eq_getElem _
        have := nd_ix hnd e1 hit
        omega
      have htake : l.take (i + 1) = l.take i ++ [t] := by rw [List.take_add_one, hit]; rfl
      refine q_setL (j := t - 1) (v := .int (Dr01.brings f ((l.take i).foldl Dr01.with_ 0) t)) hp3 (ev_call (ea_cons (ev_var rfl) (ea_cons (ev_var rfl) (ea_cons (ev_var rfl) ea_nil))) (sv_brings (ex_l e3 ha) wf ht1 ht2 hbef)) (ev_var rfl) (ev_is (ev_op (ev_var rfl) ev_c rv_I0) (by show V.int ((t : Int) - 1) = V.int ((t - 1 : Nat) : Int); congr 1; omega)) (by rw [iv, List.length_map, vertex_len]; omega) (fun H4 e4 => ?_)
      refine s_asg (v := ni (Dr01.with_ ((l.take i).foldl Dr01.with_ 0) t)) (ev_is (ev_orN (ev_var rfl) (ev_call (ea_cons (ev_var rfl) ea_nil) (sv_set_of ht1 (by omega)))) (by rw [or_with (wf.lt hbef) (by omega) ht1])) (fun H5 e5 => ?_)
      refine ⟨(Ex.mut (e3.trans e4) np).trans e5, ⟨some (ni t), ?_⟩, ?_⟩
      · rw [htake, List.foldl_append]
        rfl
      · rw [htake, vertex_snoc hnot ht1 ht2]
        refine e5 _ _ ?_
        rw [upd_same, iv, iv, List.map_set]
    · obtain ⟨e3, ⟨w, rfl⟩, hp3⟩ := pv
      rw [nv, List.length_map, List.take_length] at hp3
      exact s_ret (ev_var rfl) (fun H4 e4 => q p H4 np (e3.trans e4) (e4 _ _ hp3))
theorem sl_base_by_order {a b : Addr} {f : Dr01.Fun} {l : List Nat} {H : Hp} (ha : SqL K H a (iv f.vals)) (hb : SqL K H b (nv l)) (wf : Wf f) (hp : l.Perm (Dr01.things f)) : SpL (sp_base_by_order K) [.ref a, .ref b] H (iv (Dr02.vertex f l)) :=
  fun H1 e Q q E => ⟨a, b, f, l, rfl, ex_l e ha, ex_l e hb, wf, hp, q⟩
end
end Sh
namespace Sh
open PySem PySem.Spec PyProof.Rows L2 Evl
/-- at p a list of lists of numbers -/
def LL (H : Hp) (p : Addr) (ls : List (List Nat)) : Prop :=
  ∃ qs : List Addr, H p = some (.lst (qs.map V.ref)) ∧ qs.length = ls.length ∧ ∀ (i : Nat) (l : List Nat), ls[i]? = some l → ∃ q, qs[i]? = some q ∧ q ≠ p ∧ H q = some (.lst (nv l))
theorem LL.mono {H H' : Hp} {p : Addr} {ls : List (List Nat)} (e : Ex H H') (h : LL H p ls) : LL H' p ls := by
  obtain ⟨qs, h1, h2, h3⟩ := h
  refine ⟨qs, e _ _ h1, h2, fun i l hi => ?_⟩
  obtain ⟨q, a, b, c⟩ := h3 i l hi
  exact ⟨q, a, b, e _ _ c⟩
theorem LL.nil {H : Hp} {p : Addr} (h : H p = some (.lst [])) : LL H p [] := ⟨[], h, rfl, fun i l hi => by simp at hi⟩
theorem LL.snoc {H H1 : Hp} {p q : Addr} {ls : List (List Nat)} {l : List Nat} (h : LL H p ls) (e : Ex H H1) (np : q ≠ p) (hq : H1 q = some (.lst (nv l))) :
    ∃ xs, H p = some (.lst xs) ∧ xs.length = ls.length ∧ LL (upd H1 p (.lst (xs ++ [.ref q]))) p (ls ++ [l]) := by
  obtain ⟨qs, h1, h2, h3⟩ := h
  refine ⟨_, h1, by rw [List.length_map, h2], qs ++ [q], by rw [upd_same, List.map_append]; rfl, by simp [h2], fun i m hi => ?_⟩
  by_cases hlt : i < ls.length
  · rw [List.getElem?_append_left hlt] at hi
    obtain ⟨r, a, b, c⟩ := h3 i m hi
    exact ⟨r, by rw [List.getElem?_append_left (by omega)]; exact a, b, by rw [upd_ne b]; exact e _ _ c⟩
  · rw [List.getElem?_append_right (by omega)] at hi
    cases j : i - ls.length with
    | zero =>
      rw [j] at hi
      cases hi
      exact ⟨q, by rw [List.getElem?_append_right (by omega), h2, j]; rfl, np, by rw [upd_ne np]; exact hq⟩
    | succ j' =>
      rw [j] at hi
      simp at hi
/-- x = [[]] -/
theorem q_asgLL {i : Nat} {D : Ends} {tz : TS} {σ : L2.St} {H : Hp} (k : ∀ p0 pf H1, H p0 = none → H pf = none → p0 ≠ pf → Ex H H1 → H1 p0 = some (.lst []) → H1 pf = some (.lst [.ref p0]) → tz D (σ.set i (some (.ref pf))) H1) :
    tSeq (tAsg (tLst (tCons (tLst tNil) tNil)) (gName i)) tz D σ H := by
  refine ⟨by decide, fun p0 np0 => ⟨by show 1 ≤ sizeLine; decide, fun pf npf => ?_⟩⟩
  have n0f : p0 ≠ pf := fun z => by rw [← z, upd_same] at npf; cases npf
  have npfH : H pf = none := by rw [upd_ne n0f.symm] at npf; exact npf
  exact k p0 pf _ np0 npfH n0f ((Ex.new np0).trans (Ex.new npf)) (by rw [upd_ne n0f, upd_same]) upd_same
theorem cut_take {xs : List V} {k : Nat} : cutV xs none (some (k : Int)) = xs.take k := by
  unfold cutV
  rw [HT.sIx_none, HT.sIx_nat, List.drop_zero, Nat.sub_zero]
  by_cases h : k ≤ xs.length
  · rw [Nat.min_eq_left h]
  · rw [Nat.min_eq_right (by omega), List.take_of_length_le (Nat.le_refl _), List.take_of_length_le (by omega)]
theorem cut_drop {xs : List V} {k : Nat} : cutV xs (some (k : Int)) none = xs.drop k := by
  unfold cutV
  rw [HT.sIx_none, HT.sIx_nat]
  by_cases h : k ≤ xs.length
  · rw [Nat.min_eq_left h, List.take_of_length_le (by rw [List.length_drop]; omega)]
  · rw [Nat.min_eq_right (by omega), List.drop_of_length_le (Nat.le_refl _), List.drop_of_length_le (by omega)]
    simp
section
variable {P : Program} {w : World} {K : PySem.W.Frag} {mg : Str → Option Value} {base : Heap} {A : Adr}
theorem flat_take {acc : List (List Nat)} {g : List Nat → List (List Nat)} {j : Nat} {l : List Nat} (h : acc[j]? = some l) : (acc.take (j + 1)).flatMap g = (acc.take j).flatMap g ++ g l := by
  rw [List.take_add_one, h, List.flatMap_append]
  simp
theorem flat_take_len {acc : List (List Nat)} {g : List Nat → List (List Nat)} {c : Nat} (h : ∀ l ∈ acc, (g l).length = c) (j : Nat) : ((acc.take j).flatMap g).length ≤ acc.length * c := by
  rw [flat_len (c := c) fun l hl => h l (List.mem_of_mem_take hl), List.length_take]
  exact Nat.mul_le_mul_right c (Nat.min_le_right _ _)
def sp_orders_of : Sp := fun vs H Q _ => ∃ n : Nat, vs = [ni n] ∧ n ≤ 5 ∧ ∀ p H2, H p = none → Ex H H2 → LL H2 p (ordsP ((List.range n).map fun i => i + 1)) → Q (.ref p) H2
theorem ok_orders_of (T : Txt K mg A) (k : Nat) : Ok P w K mg base "orders_of" ["n"] (k + 2) sp_orders_of := by
  have o_things_up_to := ok_things_up_to (P := P) (w := w) (base := base) T k
  refine ok_of T.h_orders_of sc_orders_of (fun vs H Q E h => ?_) (fun f cdv A outer s H vs Q E hr h => ?_)
  · obtain ⟨n, rfl, _⟩ := h
    rfl
  · obtain ⟨n, rfl, hn, q⟩ := h
    refine ⟨_, pss_cons (ps_set (i := 1) sc_orders_of.nd rfl (.inl rfl) (pe_lst (pa_cons (pe_lst pa_nil) pa_nil)))
      (pss_cons (ps_for PassesOwn.never rfl (pi_list (pe_ok o_things_up_to hr (by rfl) (pa_cons (pv 0) pa_nil))) (pg_name (i := 2) sc_orders_of.nd rfl (.inl rfl)) (pss_cons (ps_set (i := 3) sc_orders_of.nd rfl (.inl rfl) (pe_lst pa_nil))
      (pss_cons (ps_for PassesOwn.never rfl (pi_list (pv 1)) (pg_name (i := 4) sc_orders_of.nd rfl (.inl rfl)) (pss_one (ps_for PassesOwn.never rfl (pi_range1 (by rfl) T.b_range (pa_cons (pe_op op_add (pe_callB call_len_seq (by rfl) T.b_len PySem.boot_len (pa_cons (pv 4) pa_nil)) pe_int) pa_nil)) (pg_name (i := 5) sc_orders_of.nd rfl (.inl rfl)) (pss_one (ps_expr (pe_bm PySem.F.plainAttrs_list PySem.F.slot_list_append PySem.F.type_list_append mt_append (pv 3) (pa_cons (pe_op op_cat (pe_op op_cat (pe_slice sl_list (pv 4) po_none (po_some (pv 5))) (pe_lst (pa_cons (pv 2) pa_nil))) (pe_slice sl_list (pv 4) (po_some (pv 5)) po_none)) pa_nil)))))))
      (pss_one (ps_set (i := 1) sc_orders_of.nd rfl (.inl rfl) (pv 3))))))
      (pss_one (ps_ret (pv 1)))), ?_⟩
    generalize hts : (List.range n).map (fun i => i + 1) = ts at q
    have htl : ts.length = n := by rw [← hts, List.length_map, List.length_range]
    refine q_asgLL (fun p0 pf HA np0 npfH n0f eA h0 hf => ?_)
    have LA : LL HA pf [[]] := by
      refine ⟨[p0], hf, rfl, fun i l hi => ?_⟩
      cases i with
      | zero =>
        cases hi
        exact ⟨p0, rfl, n0f, h0⟩
      | succ i => simp at hi
    refine q_forNLn (xs := nv ts) (by rw [← hts]; exact el_call (ea_cons (ev_var rfl) ea_nil) (sl_things_up_to (by omega))) (fun pt i σ' H' => Ex H H' ∧ H' pt = some (.lst (nv ts)) ∧ ∃ pf x2 x3 x4 x5, σ' = [some (ni n), some (.ref pf), x2, x3, x4, x5] ∧ H pf = none ∧ LL H' pf (ordsP (ts.take i)))
      (fun pt H1 npt e1 h1 => ⟨eA.trans e1, h1, pf, none, none, none, none, rfl, npfH, LA.mono e1⟩) (fun pt i σ' H' _ p => sq_of p.2.1) (fun pt i x σ' H' hi pv => ?_) (fun pt σ' H' pv => ?_)
    · obtain ⟨e1, hpt, pf, x2, x3, x4, x5, rfl, nf, L1⟩ := pv
      obtain ⟨t, hit, rfl⟩ := nv_get hi
      have hi' : i < n := by have := (List.getElem?_eq_some_iff.mp hit).1; omega
      have htake : ts.take (i + 1) = ts.take i ++ [t] := by rw [List.take_add_one, hit]; rfl
      have hacc : ∀ l ∈ ordsP (ts.take i), l.length = i := fun l hl => by rw [(ordsP_perm _ l hl).length_eq, List.length_take]; omega
      have haccl : (ordsP (ts.take i)).length ≤ 120 := by rw [ordsP_len, List.length_take]; exact facs_le (by omega)
      generalize hA : ordsP (ts.take i) = acc at hacc haccl L1
      refine q_asgL (el_lst ea_nil (by decide)) (fun pl H2 npl e2 h2 => ?_)
      obtain ⟨qs, hqf, hql, hqs⟩ := L1
      have nplH : H pl = none := fresh_back e1 npl
      refine q_forLn (ev_var rfl) (sq_of (e2 _ _ hqf)) (fun j σ'' H'' => Ex H' H'' ∧ (∃ y4 y5, σ'' = [some (ni n), some (.ref pf), some (ni t), some (.ref pl), y4, y5]) ∧ LL H'' pl ((acc.take j).flatMap (ins t)))
        (fun H3 e3 => ⟨e2.trans e3, ⟨x4, x5, rfl⟩, (LL.nil h2).mono e3⟩) (fun j σ'' H'' _ p => sq_of (p.1 _ _ hqf)) (fun j y σ'' H'' hj pv => ?_) (fun σ'' H'' pv => ?_)
      · obtain ⟨e3, ⟨y4, y5, rfl⟩, L3⟩ := pv
        obtain ⟨qj, hqj, rfl⟩ : ∃ qj, qs[j]? = some qj ∧ y = V.ref qj := by
          rw [List.getElem?_map] at hj
          cases z : qs[j]? with
          | none => rw [z] at hj; cases hj
          | some q => rw [z] at hj; exact ⟨q, rfl, (Option.some.inj hj).symm⟩
        have hjl : j < acc.length := by have := (List.getElem?_eq_some_iff.mp hqj).1; omega
        obtain ⟨l, hl⟩ : ∃ l, acc[j]? = some l := ⟨acc[j], List.getElem?_eq_getElem hjl⟩
        obtain ⟨q', hq', nq', hlq⟩ := hqs j l hl
        have : q' = qj := Option.some.inj (hq'.symm.trans hqj)
        subst this
        have hll : l.length = i := hacc l (List.mem_of_getElem? hl)
        have hq3 : H'' q' = some (.lst (nv l)) := e3 _ _ hlq
        have nqpl : ∀ H1, Ex H' H1 → H1 q' = some (.lst (nv l)) := fun H1 e => e _ _ hlq
        refine s_forR1 (n := ((l.length + 1 : Nat) : Int)) (ea_cons (ev_is (ev_op (ev_lenL (ev_var rfl) (sq_of hq3) rfl) ev_c rv_I0) (by rw [nv, List.length_map]; rfl)) ea_nil) ⟨by omega, by omega⟩
          (fun m σ3 H3 => Ex H' H3 ∧ (∃ z5, σ3 = [some (ni n), some (.ref pf), some (ni t), some (.ref pl), some (.ref q'), z5]) ∧ LL H3 pl ((acc.take j).flatMap (ins t) ++ (ins t l).take m))
          (fun H4 e4 => ⟨e3.trans e4, ⟨y5, rfl⟩, by rw [List.take_zero, List.append_nil]; exact L3.mono e4⟩) (fun m σ3 H3 hm pv => ?_) (fun σ3 H3 pv => ?_)
        · obtain ⟨e4, ⟨z5, rfl⟩, L4⟩ := pv
          have hm' : m < l.length + 1 := by omega
          have h4 : H3 q' = some (.lst (nv l)) := e4 _ _ hlq
          have hins : (ins t l)[m]? = some (l.take m ++ [t] ++ l.drop m) := by
            unfold ins
            rw [List.getElem?_map, List.getElem?_range hm']
            rfl
          have L4' := L4
          obtain ⟨xs4, hx4, hxl4, _⟩ := L4'
          have hb : (xs4.map V.ref).length < 100000 := by
            rw [List.length_map, hxl4, List.length_append, List.length_take]
            have b1 := flat_take_len (acc := acc) (g := ins t) (c := i + 1) (fun l hl => by rw [ins_len, hacc l hl]) j
            have b2 : acc.length * (i + 1) ≤ 120 * 5 := Nat.mul_le_mul haccl (by omega)
            omega
          refine s_appL (ys := nv (l.take m ++ [t] ++ l.drop m)) hx4 (ev_var rfl) ?_ hb (fun p H5 np e5 h5 => ?_)
          · rw [nv, List.map_append, List.map_append, List.map_take, List.map_drop]
            exact el_catNN (el_catNN (by rw [← cut_take]; exact el_sl (ev_var rfl) eo_none (eo_some (ev_var rfl)) (sq_of h4)) (el_lst (ea_cons (ev_var rfl) ea_nil) (by show 1 ≤ 100000; decide)) (by simp; omega)) (by rw [← cut_drop]; exact el_sl (ev_var rfl) (eo_some (ev_var rfl)) eo_none (sq_of h4)) (by simp; omega)
          · have npp : p ≠ pl := fun z => by rw [z, hx4] at np; cases np
            obtain ⟨xs5, hx5, _, L5⟩ := LL.snoc L4 e5 npp h5
            rw [hx4] at hx5
            cases hx5
            refine ⟨Ex.mut (e4.trans e5) npl, ⟨_, rfl⟩, ?_⟩
            rw [List.take_add_one, hins, ← List.append_assoc]
            exact L5
        · obtain ⟨e4, ⟨z5, rfl⟩, L4⟩ := pv
          refine ⟨e4, ⟨_, _, rfl⟩, ?_⟩
          rw [flat_take hl]
          rw [Int.toNat_natCast, List.take_of_length_le (l := ins t l) (by rw [ins_len]; exact Nat.le_refl _)] at L4
          exact L4
      · obtain ⟨e3, ⟨y4, y5, rfl⟩, L3⟩ := pv
        refine s_asg (ev_var rfl) (fun H4 e4 => ⟨(e1.trans e3).trans e4, e4 _ _ (e3 _ _ hpt), pl, _, _, _, _, rfl, nplH, ?_⟩)
        rw [htake, ordsP_snoc, hA]
        rw [List.length_map, hql, List.take_length] at L3
        exact L3.mono e4
    · obtain ⟨e1, hpt, pf, x2, x3, x4, x5, rfl, nf, L1⟩ := pv
      rw [nv, List.length_map, List.take_length] at L1
      exact s_ret (ev_var rfl) (fun H4 e4 => q pf H4 nf (e1.trans e4) (L1.mono e4))
end
end Sh
namespace Sh
open PySem PySem.Spec PyProof.Rows L2 Evl
theorem lex_earlier : ∀ {a b : List Int}, a.length = b.length → lexLt itemOrd (a.map Sum.inl) (b.map Sum.inl) = Dr02.earlier a b
  | [], [], _ => rfl
  | [], _ :: _, h => by simp at h
  | _ :: _, [], h => by simp at h
  | x :: l, y :: m, h => by
    have ih := lex_earlier (a := l) (b := m) (by simpa using h)
    show (decide (x < y) || (!decide (y < x) && lexLt itemOrd (l.map Sum.inl) (m.map Sum.inl))) = (decide (x < y) || (x == y && Dr02.earlier l m))
    rw [ih]
    by_cases h1 : x < y
    · simp [h1]
    · by_cases h2 : x = y
      · subst h2
        simp
      · have : y < x := by omega
        simp [h1, h2, this]
/-- a list of tuples of ints -/
def LT (H : Hp) (p : Addr) (ls : List (List Int)) : Prop := ∃ qs : List Addr, H p = some (.lst (qs.map V.ref)) ∧ qs.length = ls.length ∧ ∀ (i : Nat) (l : List Int), ls[i]? = some l → ∃ q, qs[i]? = some q ∧ H q = some (.tup (iv l))
theorem LT.mono {H H' : Hp} {p : Addr} {ls : List (List Int)} (e : Ex H H') (h : LT H p ls) : LT H' p ls := by
  obtain ⟨qs, h1, h2, h3⟩ := h
  refine ⟨qs, e _ _ h1, h2, fun i l hi => ?_⟩
  obtain ⟨q, a, b⟩ := h3 i l hi
  exact ⟨q, a, e _ _ b⟩
def tk (l : List Int) : List L2.Key := l.map Sum.inl
theorem tk_kV (l : List Int) : (tk l).map kV = iv l := by
  unfold tk
  rw [List.map_map]
  rfl
theorem tk_inj {a b : List Int} (h : tk a = tk b) : a = b := by
  have := congrArg (List.map kV) h
  rw [tk_kV, tk_kV] at this
  exact List.map_inj_right (fun x y e => V.int.inj e) |>.mp this
/-- the dict so far: its keys -/
def Keyed1 (kvs : List (List L2.Key × V)) (ks : List (List Int)) : Prop := kvs.map (·.1) = ks.map tk
theorem keyed_put {kvs : List (List L2.Key × V)} {ks : List (List Int)} {k : List Int} {v : V} (h : Keyed1 kvs ks) (hn : ks.Nodup) : ∃ ks', Keyed1 (putK kvs (tk k) v) ks' ∧ ks'.Nodup ∧ (∀ y, y ∈ ks' ↔ y ∈ ks ∨ y = k) ∧ ks'.length ≤ ks.length + 1 := by
  by_cases hk : k ∈ ks
  · refine ⟨ks, ?_, hn, fun y => ⟨fun h => .inl h, fun h => h.elim id fun e => by rw [e]; exact hk⟩, Nat.le_succ _⟩
    unfold Keyed1 putK
    have e : (kvs.any fun kv => decide (kv.1 = tk k)) = true := by
      have : tk k ∈ kvs.map (·.1) := by rw [h]; exact List.mem_map.mpr ⟨k, hk, rfl⟩
      obtain ⟨kv, hkv, e⟩ := List.mem_map.mp this
      exact List.any_eq_true.mpr ⟨kv, hkv, decide_eq_true e⟩
    rw [if_pos e, List.map_map, ← h]
    refine List.map_congr_left fun kv _ => ?_
    show (if kv.1 = tk k then (kv.1, v) else kv).1 = kv.1
    split <;> rfl
  · refine ⟨ks ++ [k], ?_, ?_, fun y => by simp, by simp⟩
    · unfold Keyed1 putK
      have e : ¬ (kvs.any fun kv => decide (kv.1 = tk k)) = true := fun z => by
        obtain ⟨kv, hkv, e⟩ := List.any_eq_true.mp z
        have : tk k ∈ ks.map tk := by rw [← h]; exact List.mem_map.mpr ⟨kv, hkv, of_decide_eq_true e⟩
        obtain ⟨k', hk', e'⟩ := List.mem_map.mp this
        exact hk (by rw [← tk_inj e']; exact hk')
      rw [if_neg e, List.map_append, List.map_append, ← h]
      rfl
    · rw [List.nodup_append]
      refine ⟨hn, List.pairwise_singleton _ _, fun a ha b hb => ?_⟩
      rw [List.mem_singleton.mp hb]
      exact fun z => hk (by rw [← z]; exact ha)
section
variable {K : PySem.W.Frag} {σ : L2.St} {H H' : Hp} {ta tb te tl : TE} {t : TT} {x y z v : V}
theorem eu_tuple {xs : List V} (ha : EvL ta σ H xs) {r : List V → Hp → VK → Prop} (hr : r = fun xs H Q => ∃ p ys, xs = [.ref p] ∧ ((SqL K H p ys ∧ ∀ l, H l = none → Q (.ref l) (upd H l (.tup ys))) ∨ (SqT K H p ys ∧ Q (.ref p) H))) : EvU (tCB r (tCons ta tNil)) σ H xs := by
  subst hr
  exact fun H1 e Q q => ha H1 e _ fun p H2 np e2 hp => ⟨p, xs, rfl, .inl ⟨sq_of hp, fun l hl => q l _ (fresh_back e2 hl) (e2.trans (Ex.new hl)) upd_same⟩⟩
end
section
variable {P : Program} {w : World} {K : PySem.W.Frag} {mg : Str → Option Value} {base : Heap} {A : Adr}
/-! different_corners -/
def sp_different_corners (K : PySem.W.Frag) : Sp := fun vs H Q _ => ∃ (a : Addr) (f : Dr01.Fun), vs = [.ref a, ni f.many] ∧ SqL K H a (iv f.vals) ∧ Wf f ∧ ∀ p H2, H p = none → Ex H H2 → LT H2 p (Dr02.corners f) → Q (.ref p) H2
theorem ok_different_corners (T : Txt K mg A) (k : Nat) : Ok P w K mg base "different_corners" ["function", "n"] (k + 4) (sp_different_corners K) := by
  have o_orders_of := ok_orders_of (P := P) (w := w) (base := base) T (k + 1)
  have o_base_by_order := ok_base_by_order (P := P) (w := w) (base := base) T k
  refine ok_of T.h_different_corners sc_different_corners (fun vs H Q E h => ?_) (fun f cdv A outer s H vs Q E hr h => ?_)
  · obtain ⟨a, f, rfl, _⟩ := h
    rfl
  · obtain ⟨a, f, rfl, ha, wf, q⟩ := h
    refine ⟨_, pss_cons (ps_set (i := 2) sc_different_corners.nd rfl (.inl rfl) pe_dnewT)
      (pss_cons (ps_for PassesOwn.never rfl (pi_list (pe_ok o_orders_of hr (by rfl) (pa_cons (pv 1) pa_nil))) (pg_name (i := 3) sc_different_corners.nd rfl (.inl rfl)) (pss_one (ps_dput (hu_of hr) (pv 2) (pe_callTy call_tuple_of (by rfl) T.b_tuple (by decide +kernel) (pa_cons (pe_ok o_base_by_order hr (by rfl) (pa_cons (pv 0) (pa_cons (pv 3) pa_nil))) pa_nil)) pe_bl rfl)))
      (pss_one (ps_ret (pe_callB (cr_sortedKeys rfl) (by rfl) T.b_sorted (by decide +kernel) (pa_cons (pe_bm0 PySem.F.plainAttrs_dict PySem.F.slot_dict_keys PySem.F.type_dict_keys mt_keysT (pv 2)) pa_nil))))), ?_⟩
    have hm := wf.hi
    generalize hts : (List.range f.many).map (fun i => i + 1) = ts
    have hts' : ts = Dr01.things f := by rw [← hts]; rfl
    intro d nd
    have e0 : Ex H (upd H d (.dT [])) := Ex.new nd
    have h0 : (upd H d (.dT [])) d = some (.dT []) := upd_same
    generalize upd H d (.dT []) = H0 at e0 h0
    refine ⟨ni f.many, rfl, f.many, rfl, hm, fun p H1 np e1 L1 => ?_⟩
    rw [hts] at L1
    obtain ⟨qs, hq, hql, hqs⟩ := L1
    refine ⟨p, rfl, ⟨_, sq_of hq⟩, for_list (xs := qs.map V.ref) (fun i σ' H' => Ex H H' ∧ (∃ u, σ' = [some (.ref a), some (ni f.many), some (.ref d), u]) ∧ (H' p = some (.lst (qs.map V.ref)) ∧ ∀ (i : Nat) (l : List Nat), (ordsP ts)[i]? = some l → ∃ q, qs[i]? = some q ∧ H' q = some (.lst (nv l))) ∧
      ∃ kvs ks, H' d = some (.dT kvs) ∧ Keyed1 kvs ks ∧ ks.Nodup ∧ ks.length ≤ i ∧ ∀ y, y ∈ ks ↔ ∃ l ∈ (ordsP ts).take i, y = Dr02.vertex f l) ?_ (fun i σ' H' _ pv => sq_of pv.2.2.1.1) (fun i x σ' H' hi pv => ?_) (fun σ' H' pv => ?_)⟩
    · exact ⟨e0.trans e1, ⟨_, rfl⟩, ⟨hq, fun i l hl => by obtain ⟨q, a, b, c⟩ := hqs i l hl; exact ⟨q, a, c⟩⟩, [], [], e1 _ _ h0, rfl, List.nodup_nil, Nat.le_refl _, fun y => by simp⟩
    · obtain ⟨e2, ⟨u, rfl⟩, ⟨hp2, hq2⟩, kvs, ks, hd2, hk2, hn2, hl2, hm2⟩ := pv
      obtain ⟨q', hq', rfl⟩ : ∃ q', qs[i]? = some q' ∧ x = V.ref q' := by
        rw [List.getElem?_map] at hi
        cases z : qs[i]? with
        | none => rw [z] at hi; cases hi
        | some q => rw [z] at hi; exact ⟨q, rfl, (Option.some.inj hi).symm⟩
      have hil : i < (ordsP ts).length := by have := (List.getElem?_eq_some_iff.mp hq').1; omega
      obtain ⟨l, hl⟩ : ∃ l, (ordsP ts)[i]? = some l := ⟨_, List.getElem?_eq_getElem hil⟩
      obtain ⟨q'', hq'', hlq⟩ := hq2 i l hl
      have : q'' = q' := Option.some.inj (hq''.symm.trans hq')
      subst this
      have hperm : l.Perm (Dr01.things f) := by rw [← hts']; exact ordsP_perm ts l (List.mem_of_getElem? hl)
      have hbound : (ordsP ts).length ≤ 120 := by rw [ordsP_len, hts', things_len]; exact facs_le hm
      refine ⟨_, rfl, ?_⟩
      refine eu_tuple (xs := iv (Dr02.vertex f l)) (el_call (ea_cons (ev_var rfl) (ea_cons (ev_var rfl) ea_nil)) (sl_base_by_order (ex_l e2 ha) (sq_of hlq) wf hperm)) rfl H' (Ex.refl H') _ fun t H3 nt e3 h3 => ?_
      have hd3 := e3 _ _ hd2
      have h3' : H3 t = some (.tup ((tk (Dr02.vertex f l)).map kV)) := by rw [tk_kV]; exact h3
      have hlen : kvs.length = ks.length := by rw [← List.length_map (f := fun kv : List L2.Key × V => kv.1), hk2, List.length_map]
      refine ⟨d, _, rfl, DPut.t hd3 h3' (by rw [hlen, sizeLine_eq]; omega), ?_⟩
      obtain ⟨ks', a1, a2, a3, a4⟩ := keyed_put (k := Dr02.vertex f l) (v := .bl true) hk2 hn2
      have nd' : ∀ b o, H b = some o → b ≠ d := fun b o e => ne_of_none e nd
      have ndp : ∀ (b : Addr) (xs : List V), H3 b = some (.lst xs) → b ≠ d := fun b xs e z => by rw [z, hd3] at e; cases e
      refine ⟨Ex.mut (e2.trans e3) nd, ⟨_, rfl⟩, ⟨by rw [upd_ne (ndp _ _ (e3 _ _ hp2))]; exact e3 _ _ hp2, fun j m hj => ?_⟩, _, ks', upd_same, a1, a2, by omega, fun y => ?_⟩
      · obtain ⟨q, b1, b2⟩ := hq2 j m hj
        exact ⟨q, b1, by rw [upd_ne (ndp _ _ (e3 _ _ b2))]; exact e3 _ _ b2⟩
      · rw [a3, hm2, List.take_add_one, hl]
        constructor
        · rintro (⟨m, hm, e⟩ | e)
          · exact ⟨m, List.mem_append_left _ hm, e⟩
          · exact ⟨l, List.mem_append_right _ (by simp), e⟩
        · rintro ⟨m, hm, e⟩
          rcases List.mem_append.mp hm with hm | hm
          · exact .inl ⟨m, hm, e⟩
          · have : m = l := by simpa using hm
            exact .inr (by rw [e, this])
    · obtain ⟨e2, ⟨u, rfl⟩, _, kvs, ks, hd2, hk2, hn2, hl2, hm2⟩ := pv
      rw [List.length_map, hql, List.take_length] at hm2
      have hmem : ∀ y, y ∈ ks ↔ ∃ l, l.Perm (Dr01.things f) ∧ y = Dr02.vertex f l := fun y => by
        rw [hm2]
        constructor
        · rintro ⟨l, hl, e⟩
          exact ⟨l, by rw [← hts']; exact ordsP_perm ts l hl, e⟩
        · rintro ⟨l, hl, e⟩
          exact ⟨l, ordsP_all ts l (by rw [hts']; exact hl), e⟩
      have hlk : ∀ y ∈ ks, y.length = f.many := fun y hy => by
        obtain ⟨l, _, rfl⟩ := (hmem y).mp hy
        exact vertex_len f l
      refine ⟨.ref d, rfl, .inr (.inr (.inl ⟨rfl, .inr ⟨_, hd2⟩⟩)), d, kvs, rfl, rfl, hd2, fun v nv' => ?_⟩
      refine ⟨v, d, kvs, ks, rfl, upd_same, by rw [upd_ne (ne_of_none hd2 nv')]; exact hd2, hk2, fun y hy => by rw [hlk y hy]; exact wf.lo, fun r zs hz1 hz2 hz3 nr => ?_⟩
      have hc : zs.map (·.2) = Dr02.corners f := corners_uniq (List.Pairwise.imp_of_mem (fun {x y} hx hy h => by
          rw [lex_earlier (by rw [hlk y (hz1.mem_iff.mp hy), hlk x (hz1.mem_iff.mp hx)])] at h
          exact h) hz2) (hz1.nodup_iff.mpr hn2) (fun x hx => hlk x (hz1.mem_iff.mp hx)) (fun y => by rw [hz1.mem_iff]; exact hmem y)
      have nrH : H r = none := fresh_back (e2.trans (Ex.new nv')) nr
      refine q r _ nrH ((e2.trans (Ex.new nv')).trans (Ex.new nr)) ?_
      refine ⟨zs.map (·.1), by rw [upd_same, List.map_map]; rfl, by rw [← hc, List.length_map, List.length_map], fun i l hl => ?_⟩
      rw [← hc, List.getElem?_map] at hl
      cases z : zs[i]? with
      | none => rw [z] at hl; cases hl
      | some y =>
        rw [z] at hl
        cases hl
        have hy := hz3 y (List.mem_of_getElem? z)
        exact ⟨y.1, by rw [List.getElem?_map, z]; rfl, by rw [upd_ne (ne_of_none hy nr)]; exact hy⟩
end
end Sh
namespace Sh
open PySem PySem.Spec PyProof.Rows L2 Evl LamX NdefX
/-- a def whose code object stands at c -/
def HasC (K : PySem.W.Frag) (mg : Str → Option Value) (x : Str) (st : Stmt) (ps : List Str) (c : Addr) : Prop :=
  ∃ (f : Addr) (oc : Value) (od : Option Addr) (kV doc pm : Value) (an : Option Addr) (ct : Value) (osl : Array (Option Value)),
    K.lookup f = some ⟨oc, od, .func (PySem.W.fnOf x x (defArgs st) (defBody st) (defScope st) .none kV doc pm an (.ref c) ct), osl⟩ ∧ PySem.W.codeIn K (.ref c) x = true ∧ PySem.W.keepIn K (.ref f) = true ∧ mg x = some (.ref f) ∧
    Binds K (PySem.W.fnOf x x (defArgs st) (defBody st) (defScope st) .none kV doc pm an (.ref c) ct) ps []
section
variable {P : Program} {w : World} {K : PySem.W.Frag} {mg : Str → Option Value} {base : Heap}
theorem okC_of {x : Str} {st : Stmt} {N ps : List Str} {k : Nat} {sp : Sp} {c : Addr} (h : HasC K mg x st ps c) (S : FnScope N ps (defScope st)) (len : ∀ vs H Q E, sp vs H Q E → vs.length = ps.length)
    (hbody : ∀ (f : Addr) (A : Around) (outer : List Env) (s : Shared) (H : Hp) (vs : List V) (Q : VK) (E : XK), Room k (A.deeper (envOfC x (defScope st) s.heap.objs.size f (.ref c))) → sp vs H Q E →
      ∃ t, PSs (cxOf CX0 P w K mg base N x (defScope st) f (.ref c) A outer s H E).nox (defBody st) t ∧ t { nx := fun _ H' => Q .non H', rt := Q } (start N vs) H) : Ok P w K mg base x ps (k + 1) sp := by
  obtain ⟨f, oc, od, kV, doc, pm, an, ct, osl, lk, hcd, kp, g, b⟩ := h
  refine ⟨f, _, fn_of lk hcd S len fun A outer s H vs Q E hr hsp => ?_, g, kp, b⟩
  obtain ⟨t, h, q⟩ := hbody f A outer s H vs Q E hr hsp
  exact ⟨t, h.nox, q⟩
end
section
variable {P : Program} {w : World} {K : PySem.W.Frag} {mg : Str → Option Value} {base : Heap} {A : Adr}
/-! order_by_weight -/
def lamQ : Str := "order_by_weight" ++ ".<locals>." ++ "<lambda>"
def sp_order_by_weight (K : PySem.W.Frag) (T : List (Addr × Str)) : Sp := fun vs H Q _ => ∃ (a : Addr) (f : Dr01.Fun) (ws : List Int), vs = [.ref a] ∧ SqL K H a (iv ws) ∧ ws.length = f.many ∧ f.many ≤ 5 ∧ Tabs T H ∧ ∀ p H2, ExtN H H2 → Tabs T H2 → H2 p = some (.lst (nv (Dr02.byWeight f ws))) → Q (.ref p) H2
theorem sc_lam : NScope ["thing", "weights"] ["thing"] ["weights"] { kind := .function, names := [("thing", .local), ("weights", .free)], isGenerator := false, isCoroutine := false, more := [] } := nscope_by (by decide +kernel)
theorem ok_order_by_weight (T : Txt K mg A) {c Pt : Addr} (hC : HasC K mg "order_by_weight" s_order_by_weight ["weights"] c) (TB : TabB base mg c Pt) {Ts : List (Addr × Str)} (hT : (Pt, lamQ) ∈ Ts) (hu : ∀ p ∈ Ts, p.1 = Pt → p.2 = lamQ) (k : Nat) : Ok P w K mg base "order_by_weight" ["weights"] (k + 4) (sp_order_by_weight K Ts) := by
  have o_things_up_to := ok_things_up_to (P := P) (w := w) (base := base) T (k + 2)
  refine okC_of hC sc_order_by_weight (fun vs H Q E h => ?_) (fun f A outer s H vs Q E hr h => ?_)
  · obtain ⟨a, f, ws, rfl, _⟩ := h
    rfl
  · obtain ⟨a, f, ws, rfl, ha, hl, hm, hTs, q⟩ := h
    refine ⟨_, pss_one (ps_ret (pe_sortedLam (T := Ts) (c := c) (P := Pt) (N := ["thing", "weights"]) (fr := ["weights"]) (x := "thing") (js := [0]) (k := k) (tb := tTup (tCons (tUn (rU fun i => .int (-i)) (tOp (rIxL K) (tVar 1) (tOp (rI0 fun i j => .int (i - j)) (tVar 0) (tC (.int 1))))) (tCons (tVar 0) tNil))) (by rfl) T.b_sorted (pa_cons (pe_ok o_things_up_to hr (by rfl) (pa_cons (pe_callB call_len_seq (by rfl) T.b_len PySem.boot_len (pa_cons (pv 0) pa_nil)) pa_nil)) pa_nil)
      TB rfl hT hu rfl sc_lam (show ∀ y ∈ ([("thing", .local), ("weights", .free)] : List (Str × NameKind)), y.2 = .free → List.lookup y.1 (defScope s_order_by_weight).names = some .cell ∨ List.lookup y.1 (defScope s_order_by_weight).names = some .free by decide +kernel) (by decide +kernel) rfl (fun _ _ _ _ _ _ => rfl) hr (fun F f A outer s H hF => by
        cases F
        cases hF
        exact pe_tup (pa_cons (pe_un un_neg (pe_ix ix_list (pv 1) (pe_op op_sub (pv 0) pe_int) (fun _ _ => rfl))) (pa_cons (pv 0) pa_nil))))), ?_⟩
    have hlen : (iv ws).length = f.many := by rw [iv, List.length_map, hl]
    have hth : EvL (tCall sp_things_up_to [] E0 (tCons (tCB (fun xs H Q => ∃ p ys, xs = [V.ref p] ∧ (SqL K H p ys ∨ SqT K H p ys) ∧ Q (.int ys.length) H) (tCons (tVar 0) tNil)) tNil)) (start ["weights"] [.ref a]) H (nv (Dr01.things f)) :=
      el_call (ea_cons (ev_is (ev_lenL (ev_var rfl) ha rfl) (by rw [hlen])) ea_nil) (sl_things_up_to (by omega))
    refine hth H (Ex.refl H) _ fun p0 H1 np0 e1 h1 => ?_
    have hns : nv (Dr01.things f) = iv ((Dr01.things f).map fun (n : Nat) => (n : Int)) := by rw [nv, iv, List.map_map]; rfl
    refine ⟨hTs.ext e1, p0, (Dr01.things f).map fun (n : Nat) => (n : Int), fun t => (-(ws.getD (t.toNat - 1) 0), t), rfl, by rw [← hns]; exact sq_of h1, by rw [List.length_map, things_len]; omega, fun n hn H2 ex Q' q' => ?_, fun p H2 ns' ex tabs h2 hp hs => ?_⟩
    · obtain ⟨t, ht, rfl⟩ := List.mem_map.mp hn
      have ht' := mem_things.mp ht
      have hw : (iv ws)[t - 1]? = some (.int (ws.getD (t - 1) 0)) := by
        rw [iv, List.getElem?_map, List.getD_eq_getElem?_getD, List.getElem?_eq_getElem (by omega)]
        rfl
      have hsa : SqL K H2 a (iv ws) := sq_extN ex (ex_l e1 ha)
      refine eu_tup (ea_cons (ev_un (ev_op (ev_var rfl) (ev_op (ev_var rfl) ev_c rv_I0) (rv_ixL hsa (at_of (j := t - 1) (by omega) hw))) ru_neg) (ea_cons (ev_var rfl) ea_nil)) (by show 2 ≤ 100000; decide) H2 (Ex.refl H2) _ fun t' H3 nt e3 h3 => ?_
      refine q' t' H3 e3 ?_
      rw [h3]
      show _ = some (HO.tup [V.int (-(ws.getD ((t : Int).toNat - 1) 0)), V.int (t : Int)])
      rw [Int.toNat_natCast]
    · have hin : ∀ y ∈ ns', ∃ t : Nat, y = (t : Int) ∧ 1 ≤ t ∧ t ≤ f.many := fun y hy => by
        obtain ⟨t, ht, rfl⟩ := List.mem_map.mp (hp.mem_iff.mp hy)
        exact ⟨t, rfl, mem_things.mp ht⟩
      have e3 : ns' = (ns'.map Int.toNat).map fun (n : Nat) => (n : Int) := by
        rw [List.map_map]
        refine (List.map_id' ns').symm.trans (List.map_congr_left fun y hy => ?_)
        obtain ⟨t, rfl, _⟩ := hin y hy
        rfl
      have hby : ns'.map Int.toNat = Dr02.byWeight f ws := by
        refine byWeight_uniq (w := ws) ?_ fun y => ?_
        · have nd : ns'.Nodup := hp.nodup_iff.mpr (List.Pairwise.map _ (fun x y (h : x ≠ y) => (by omega : (x : Int) ≠ (y : Int))) (things_nodup f))
          refine List.pairwise_map.mpr (List.Pairwise.imp_of_mem (fun {x y} hx hy h => ?_) (hs.and nd))
          obtain ⟨x', rfl, _⟩ := hin x hx
          obtain ⟨y', rfl, _⟩ := hin y hy
          obtain ⟨h4, h5⟩ := h
          have h6 : ¬ (-(ws.getD (y' - 1) 0) < -(ws.getD (x' - 1) 0) ∨ (-(ws.getD (y' - 1) 0) = -(ws.getD (x' - 1) 0) ∧ (y' : Int) < (x' : Int))) := fun z => by
            have h7 : Dr02.earlier [-(ws.getD (y' - 1) 0), (y' : Int)] [-(ws.getD (x' - 1) 0), (x' : Int)] = true := by
              rw [earlier_true]
              rcases z with z | ⟨z1, z2⟩
              · exact .inl z
              · exact .inr ⟨z1, by rw [earlier_true]; exact .inl z2⟩
            rw [← lex_earlier (a := [-(ws.getD (y' - 1) 0), (y' : Int)]) (b := [-(ws.getD (x' - 1) 0), (x' : Int)]) rfl] at h7
            have h8 : lexLt itemOrd (kl (-(ws.getD ((y' : Int).toNat - 1) 0), (y' : Int))) (kl (-(ws.getD ((x' : Int).toNat - 1) 0), (x' : Int))) = true := by
              rw [Int.toNat_natCast, Int.toNat_natCast]
              exact h7
            rw [h8] at h4
            cases h4
          show bef ws (x' : Int).toNat (y' : Int).toNat
          rw [Int.toNat_natCast, Int.toNat_natCast]
          unfold bef
          omega
        · rw [List.mem_map]
          constructor
          · rintro ⟨z, hz, rfl⟩
            obtain ⟨t, rfl, h1, h2⟩ := hin z hz
            rw [Int.toNat_natCast]
            exact ⟨h1, h2⟩
          · intro hy
            exact ⟨(y : Int), hp.mem_iff.mpr (List.mem_map.mpr ⟨y, mem_things.mpr hy, rfl⟩), rfl⟩
      refine q p H2 ((ExtN.of e1).trans ex) tabs ?_
      rw [h2, e3, hby, iv, nv, List.map_map]
      rfl
end
end Sh
namespace Sh
open PySem PySem.Spec PyProof.Rows L2 Evl LamX NdefX
section
variable {P : Program} {w : World} {K : PySem.W.Frag} {mg : Str → Option Value} {base : Heap} {A : Adr}
theorem fdiv_eq {a : Int} {b : Nat} : Int.fdiv a (b : Int) = a / (b : Int) := Int.fdiv_eq_ediv_of_nonneg a (by omega)
theorem fmod_eq {a : Int} {b : Nat} : Int.fmod a (b : Int) = a % (b : Int) := Int.fmod_eq_emod_of_nonneg a (by omega)
theorem tn_succ {N : Nat} (h : 0 < N) : ((N : Int) - 1).toNat + 1 = N := by omega
/-! size_of -/
theorem bits_int (c : Nat) : Builtin.Int.intBits (c : Int) = bitsN c := by
  unfold Builtin.Int.intBits bitsN
  by_cases h : c = 0
  · subst h
    rfl
  · rw [if_neg h, if_neg (by simpa using h), Int.natAbs_natCast]
def sp_size_of : Sp := fun vs H Q _ => ∃ c n : Nat, vs = [ni c] ∧ n ≤ 5 ∧ c < 2 ^ n ∧ RetV (ni (sizeN n c)) H Q
theorem ok_size_of (T : Txt K mg A) (k : Nat) : Ok P w K mg base "size_of" ["chosen"] (k + 3) sp_size_of := by
  have o_has := ok_has (P := P) (w := w) (base := base) T k
  have o_things_up_to := ok_things_up_to (P := P) (w := w) (base := base) T (k + 1)
  refine ok_of T.h_size_of sc_size_of (fun vs H Q E h => ?_) (fun f cdv A outer s H vs Q E hr h => ?_)
  · obtain ⟨c, n, rfl, _⟩ := h
    rfl
  · obtain ⟨c, n, rfl, hn, hc, q⟩ := h
    refine ⟨_, pss_one (ps_ret (pe_callB call_len_seq (by rfl) T.b_len PySem.boot_len (pa_cons (pe_lc (own := [("thing", 1)]) (g := gName 1) rfl sc_size_of.nd (pi_list (pe_ok o_things_up_to hr (by rfl) (pa_cons (pe_bits (pv 0)) pa_nil))) (blkOk_by (own := [("thing", 1)]) (N := ["chosen", "thing"]) (sc := defScope s_size_of) (by decide +kernel)) (fun _ _ _ _ _ => (pg_name (i := 1) sc_size_of.nd rfl (.inl rfl))) (fun _ _ _ _ _ => (pts_one (pt_val (pe_ok o_has hr (by rfl) (pa_cons (pv 0) (pa_cons (pv 1) pa_nil)))))) (fun _ _ _ _ _ => (pv 1))) pa_nil))), ?_⟩
    have h32 : c < 32 := Nat.lt_of_lt_of_le hc (pow_le hn)
    have hb := bits_le h32
    refine s_ret (ev_is (ev_lenN (el_mapN (l := (List.range (bitsN c)).map fun i => i + 1) (fun t => Dr01.has c t) ni (el_call (ea_cons (ev_is (ev_bits (ev_var rfl)) (by rw [bits_int]; rfl)) ea_nil) (sl_things_up_to (n := bitsN c) (by omega))) (by simp; omega) (fun _ => rfl) (fun t ht => ?_) (fun t ht _ => ev_var rfl))) ?_) q
    · obtain ⟨i, hi, rfl⟩ := List.mem_map.mp ht
      have := List.mem_range.mp hi
      exact et_B (ev_call (ea_cons (ev_var rfl) (ea_cons (ev_var rfl) ea_nil)) (sv_has h32 (by omega) (by omega)))
    · rw [List.length_map, ← size_bits (by omega) hc]
      rfl
theorem sv_size_of {c n : Nat} {H : Hp} (hn : n ≤ 5) (hc : c < 2 ^ n) : SpV sp_size_of [ni c] H (ni (sizeN n c)) := fun H1 e Q q E => ⟨c, n, rfl, hn, hc, q⟩
/-! together -/
def sp_together (K : PySem.W.Frag) : Sp := fun vs H Q _ => ∃ (a : Addr) (x : List Int) (c : Nat), vs = [.ref a, ni c] ∧ SqL K H a (iv x) ∧ x.length ≤ 5 ∧ c < 32 ∧ RetV (.int (tog x c)) H Q
theorem ok_together (T : Txt K mg A) (k : Nat) : Ok P w K mg base "together" ["shares", "chosen"] (k + 3) (sp_together K) := by
  have o_has := ok_has (P := P) (w := w) (base := base) T k
  refine ok_of T.h_together sc_together (fun vs H Q E h => ?_) (fun f cdv A outer s H vs Q E hr h => ?_)
  · obtain ⟨a, x, c, rfl, _⟩ := h
    rfl
  · obtain ⟨a, x, c, rfl, ha, hl, hc, q⟩ := h
    refine ⟨_, pss_one (ps_ret (pe_callB (cr_sum rfl) (by rfl) T.b_sum (by decide +kernel) (pa_cons (pe_lc (own := [("place", 2), ("share", 3)]) (g := gTwo K 2 3) rfl sc_together.nd (pi_enum (by rfl) T.b_enumerate (pa_cons (pv 0) pa_nil)) (blkOk_by (own := [("place", 2), ("share", 3)]) (N := ["shares", "chosen", "place", "share"]) (sc := defScope s_together) (by decide +kernel)) (fun _ _ _ _ _ => by exact (pg_tup rfl (pgs_cons (pg_name (i := 2) sc_together.nd rfl (.inl rfl)) (pgs_cons (pg_name (i := 3) sc_together.nd rfl (.inl rfl)) pgs_nil)))) (fun _ _ _ _ _ => (pts_one (pt_val (pe_ok o_has hr (by rfl) (pa_cons (pv 1) (pa_cons (pe_op op_add (pv 2) pe_int) pa_nil)))))) (fun _ _ _ _ _ => (pv 3))) pa_nil))), ?_⟩
    refine s_ret (ev_sumN (ns := togs x c) ?_) q
    have hlen : (iv x).length = x.length := by rw [iv, List.length_map]
    have key := el_enum (K := K) (t := tB (tCall sp_has [] E0 (tCons (tVar 1) (tCons (tOp (rI0 fun i j => .int (i + j)) (tVar 2) (tC (.int 1))) tNil)))) (te := tVar 3) (σ := start ["shares", "chosen", "place", "share"] [.ref a, ni c]) (H := H) (i := 2) (j := 3) (vs := [2, 3]) (tl := tVar 0) (a := a) (l := iv x)
      (fun k => Dr01.has c (k + 1)) (fun k => .int (x.getD k 0)) (ev_var rfl) ha (by rw [hlen]; omega) (fun _ _ => rfl)
      (fun k y hy => by
        obtain ⟨n, hn, rfl⟩ := iv_get hy
        have := (List.getElem?_eq_some_iff.mp hn).1
        exact et_B (ev_call (ea_cons (ev_var rfl) (ea_cons (ev_is (ev_op (ev_var rfl) ev_c rv_I0) rfl) ea_nil)) (sv_has (t := k + 1) hc (by omega) (by omega))))
      (fun k y hy _ => by
        obtain ⟨n, hn, rfl⟩ := iv_get hy
        refine ev_is (ev_var rfl) ?_
        rw [List.getD_eq_getElem?_getD, hn]
        rfl)
    rw [hlen] at key
    unfold given at key
    rw [togs, iv, List.map_map]
    exact key
theorem sv_together {a : Addr} {x : List Int} {c : Nat} {H : Hp} (ha : SqL K H a (iv x)) (hl : x.length ≤ 5) (hc : c < 32) : SpV (sp_together K) [.ref a, ni c] H (.int (tog x c)) := fun H1 e Q q E => ⟨a, x, c, rfl, ex_l e ha, hl, hc, q⟩
/-! worth_of -/
def sp_worth_of (K : PySem.W.Frag) : Sp := fun vs H Q _ => ∃ (a b : Addr) (x y : List Int), vs = [.ref a, .ref b] ∧ SqL K H a (iv x) ∧ SqL K H b (iv y) ∧ x.length = y.length ∧ x.length ≤ 5 ∧ (∀ m ∈ y, -20000 ≤ m ∧ m ≤ 20000) ∧ RetV (.int (wsum x y)) H Q
theorem ok_worth_of (T : Txt K mg A) (k : Nat) : Ok P w K mg base "worth_of" ["shares", "weights"] (k + 1) (sp_worth_of K) := by
  refine ok_of T.h_worth_of sc_worth_of (fun vs H Q E h => ?_) (fun f cdv A outer s H vs Q E hr h => ?_)
  · obtain ⟨a, b, x, y, rfl, _⟩ := h
    rfl
  · obtain ⟨a, b, x, y, rfl, ha, hb, hl, h5, hy20, q⟩ := h
    refine ⟨_, pss_one (ps_ret (pe_callB (cr_sum rfl) (by rfl) T.b_sum (by decide +kernel) (pa_cons (pe_lc (own := [("share", 2), ("weight", 3)]) (g := gTwo K 2 3) (tt := tYes) rfl sc_worth_of.nd (pi_zip (by rfl) T.b_zip (pa_cons (pv 0) (pa_cons (pv 1) pa_nil))) (blkOk_by (own := [("share", 2), ("weight", 3)]) (N := ["shares", "weights", "share", "weight"]) (sc := defScope s_worth_of) (by decide +kernel)) (fun _ _ _ _ _ => by exact (pg_tup rfl (pgs_cons (pg_name (i := 2) sc_worth_of.nd rfl (.inl rfl)) (pgs_cons (pg_name (i := 3) sc_worth_of.nd rfl (.inl rfl)) pgs_nil)))) (fun _ _ _ _ _ => pts_nil) (fun _ _ _ _ _ => (pe_op op_mul (pv 2) (pv 3)))) pa_nil))), ?_⟩
    refine s_ret (ev_sumN (ns := (List.range x.length).map fun k => x.getD k 0 * y.getD k 0) ?_) q
    have hlen : (iv x).length = x.length := by rw [iv, List.length_map]
    have key := el_zip (K := K) (t := tYes) (te := tOp (rI (fun i j => CMul i j) fun i j => .int (i * j)) (tVar 2) (tVar 3)) (σ := start ["shares", "weights", "share", "weight"] [.ref a, .ref b]) (H := H) (i := 2) (j := 3) (vs := [2, 3]) (ta := tVar 0) (tb := tVar 1) (a := a) (b := b) (xs := iv x) (ys := iv y)
      (fun k => true) (fun k => .int (x.getD k 0 * y.getD k 0)) (ev_var rfl) (ev_var rfl) ha hb (by rw [iv, iv, List.length_map, List.length_map, hl]) (by rw [hlen]; omega) (fun _ _ => rfl)
      (fun k x' y' hx hy => et_yes)
      (fun k x' y' hx hy _ => by
        obtain ⟨n, hn, rfl⟩ := iv_get hx
        obtain ⟨m, hm, rfl⟩ := iv_get hy
        refine ev_is (ev_op (ev_var rfl) (ev_var rfl) (rv_I ?_)) ?_
        · have := hy20 m (List.mem_of_getElem? hm)
          exact .inr ⟨by omega, by omega⟩
        · rw [List.getD_eq_getElem?_getD, hn, List.getD_eq_getElem?_getD, hm]
          rfl)
    rw [hlen] at key
    unfold given at key
    rw [filter_yes] at key
    rw [iv, List.map_map]
    exact key
theorem sv_worth_of {a b : Addr} {x y : List Int} {H : Hp} (ha : SqL K H a (iv x)) (hb : SqL K H b (iv y)) (hl : x.length = y.length) (h5 : x.length ≤ 5) (hy : ∀ m ∈ y, -20000 ≤ m ∧ m ≤ 20000) : SpV (sp_worth_of K) [.ref a, .ref b] H (.int (wsum x y)) :=
  fun H1 e Q q E => ⟨a, b, x, y, rfl, ex_l e ha, ex_l e hb, hl, h5, hy, q⟩
/-! lowest_with_too_much -/
def sp_lowest (K : PySem.W.Frag) : Sp := fun vs H Q _ => ∃ (a b : Addr) (f : Dr01.Fun) (x : List Int), vs = [.ref a, .ref b] ∧ SqL K H a (iv f.vals) ∧ SqL K H b (iv x) ∧ Wf f ∧ Dr01.val f 0 = 0 ∧ x.length = f.many ∧ ∀ (c : Nat) (H2 : Hp), Lowest f x c → Ex H H2 → Q (ni c) H2
theorem ok_lowest (T : Txt K mg A) (k : Nat) : Ok P w K mg base "lowest_with_too_much" ["function", "shares"] (k + 4) (sp_lowest K) := by
  have o_together := ok_together (P := P) (w := w) (base := base) T k
  refine ok_of T.h_lowest_with_too_much sc_lowest_with_too_much (fun vs H Q E h => ?_) (fun f cdv A outer s H vs Q E hr h => ?_)
  · obtain ⟨a, b, f, x, rfl, _⟩ := h
    rfl
  · obtain ⟨a, b, f, x, rfl, ha, hb, wf, h0, hl, q⟩ := h
    refine ⟨_, pss_cons (ps_for PassesOwn.never rfl (pi_range2 (by rfl) T.b_range (pa_cons pe_int (pa_cons (pe_callB call_len_seq (by rfl) T.b_len PySem.boot_len (pa_cons (pv 0) pa_nil)) pa_nil))) (pg_name (i := 2) sc_lowest_with_too_much.nd rfl (.inl rfl)) (pss_one (ps_if (pt_cmpR op_gt (pe_ok o_together hr (by rfl) (pa_cons (pv 1) (pa_cons (pv 2) pa_nil))) (pe_ix ix_list (pv 0) (pv 2) (fun _ _ => rfl)) (nomark _)) (pss_one (ps_ret (pv 2))) pss_nil)))
      (pss_one (ps_ret pe_int)), ?_⟩
    have hm := wf.hi
    have hp := pow_le hm
    have hlen : (iv f.vals).length = 2 ^ f.many := by rw [iv, List.length_map, wf.len]
    refine q_forR2 (lo := 1) (n := ((2 ^ f.many : Nat) : Int)) (ea_cons ev_c (ea_cons (ev_is (ev_lenL (ev_var rfl) ha rfl) (by rw [hlen]; rfl)) ea_nil)) ⟨by decide, by decide, by omega, by omega⟩
      (fun i σ' H' => Ex H H' ∧ (∃ u, σ' = [some (.ref a), some (.ref b), u]) ∧ ∀ s, s < i + 1 → ¬ Dr01.val f s < tog x s) (fun H1 e1 => ⟨e1, ⟨none, rfl⟩, fun s hs => ?_⟩) (fun i σ' H' hi pv => ?_) (fun σ' H' pv => ?_)
    · have : s = 0 := by omega
      subst this
      rw [h0, tog_zero wf hl]
      decide
    · obtain ⟨e1, ⟨u, rfl⟩, hno⟩ := pv
      have ei : (1 : Int) + (i : Int) = ((i + 1 : Nat) : Int) := by omega
      rw [ei]
      have hi' : i + 1 < 2 ^ f.many := by omega
      have e2 : (iv f.vals)[i + 1]? = some (.int (Dr01.val f (i + 1))) := by
        rw [iv, List.getElem?_map, wf.at hi']
        rfl
      refine s_when (et_is (et_test (ev_op (ev_call (ea_cons (ev_var rfl) (ea_cons (ev_var (v := ni (i + 1)) rfl) ea_nil)) (sv_together (ex_l e1 hb) (by omega) (by omega))) (ev_ixN (i := i + 1) (ev_var rfl) (ev_var rfl) (ex_l e1 ha) e2) rv_I0)) (b := decide (Dr01.val f (i + 1) < tog x (i + 1))) ?_) (fun hw H2 e3 => ?_) (fun hw H2 e3 => ?_)
      · simp
      · refine s_ret (ev_var (v := ni (i + 1)) rfl) (fun H3 e4 => q (i + 1) H3 (.inr ⟨by omega, hi', of_decide_eq_true hw, hno⟩) ((e1.trans e3).trans e4))
      · refine ⟨e1.trans e3, ⟨_, rfl⟩, fun s hs => ?_⟩
        by_cases hs' : s < i + 1
        · exact hno s hs'
        · have : s = i + 1 := by omega
          subst this
          exact of_decide_eq_false hw
    · obtain ⟨e1, ⟨u, rfl⟩, hno⟩ := pv
      rw [tn_succ (Nat.pos_of_ne_zero (by simp))] at hno
      refine s_ret (ev_c (v := .int 0)) (fun H3 e4 => q 0 H3 (.inl ⟨rfl, hno⟩) (e1.trans e4))
/-! in_parts -/
def sp_in_parts (K : PySem.W.Frag) : Sp := fun vs H Q _ => ∃ (a : Addr) (x : List Int), vs = [.ref a] ∧ SqL K H a (iv x) ∧ x.length ≤ 40000 ∧ RetL (iv (x.map fun z => 60 * z)) H Q
theorem ok_in_parts (T : Txt K mg A) (k : Nat) : Ok P w K mg base "in_parts" ["shares"] (k + 1) (sp_in_parts K) := by
  refine ok_of T.h_in_parts sc_in_parts (fun vs H Q E h => ?_) (fun f cdv A outer s H vs Q E hr h => ?_)
  · obtain ⟨a, x, rfl, _⟩ := h
    rfl
  · obtain ⟨a, x, rfl, ha, hl, q⟩ := h
    refine ⟨_, pss_one (ps_ret (pe_lc (own := [("share", 1)]) (g := gName 1) (tt := tYes) rfl sc_in_parts.nd (pi_list (pv 0)) (blkOk_by (own := [("share", 1)]) (N := ["shares", "share"]) (sc := defScope s_in_parts) (by decide +kernel)) (fun _ _ _ _ _ => (pg_name (i := 1) sc_in_parts.nd rfl (.inl rfl))) (fun _ _ _ _ _ => pts_nil) (fun _ _ _ _ _ => (pe_op op_mul (pe_gi rfl T.c_PARTS_OF_ONE) (pv 1))))), ?_⟩
    refine s_retL (el_mapA (l := x) (fun z => .int (60 * z)) (ev_var rfl) ha hl (fun _ => rfl) (fun z _ => ev_op ev_c (ev_var rfl) (rv_I (.inl ⟨by decide, by decide⟩)))) (fun p H1 hp e h1 => q p H1 hp e ?_)
    rw [h1, iv, List.map_map]
    rfl
theorem sl_in_parts {a : Addr} {x : List Int} {H : Hp} (ha : SqL K H a (iv x)) (hl : x.length ≤ 40000) : SpL (sp_in_parts K) [.ref a] H (iv (x.map fun z => 60 * z)) := fun H1 e Q q E => ⟨a, x, rfl, ex_l e ha, hl, q⟩
/-! as_fraction -/
def fr2 (c : Int) : List Int := [c / (common c : Int), 60 / (common c : Int)]
def sp_as_fraction : Sp := fun vs H Q _ => ∃ c : Int, vs = [.int c] ∧ RetL (iv (fr2 c)) H Q
theorem ok_as_fraction (T : Txt K mg A) (k : Nat) : Ok P w K mg base "as_fraction" ["count"] (k + 1) sp_as_fraction := by
  refine ok_of T.h_as_fraction sc_as_fraction (fun vs H Q E h => ?_) (fun f cdv A outer s H vs Q E hr h => ?_)
  · obtain ⟨c, rfl, _⟩ := h
    rfl
  · obtain ⟨c, rfl, q⟩ := h
    refine ⟨_, pss_cons (ps_set (i := 1) sc_as_fraction.nd rfl (.inl rfl) (pe_callB (cr_max rfl) (by rfl) T.b_max (by decide +kernel) (pa_cons (pe_lc (own := [("size", 2)]) (g := gName 2) rfl sc_as_fraction.nd (pi_range2 (by rfl) T.b_range (pa_cons pe_int (pa_cons (pe_op op_add (pe_gi rfl T.c_PARTS_OF_ONE) pe_int) pa_nil))) (blkOk_by (own := [("size", 2)]) (N := ["count", "common", "size"]) (sc := defScope s_as_fraction) (by decide +kernel)) (fun _ _ _ _ _ => (pg_name (i := 2) sc_as_fraction.nd rfl (.inl rfl))) (fun _ _ _ _ _ => (pts_one (PW.pt (pw_and (pt_cmpR op_eq (pe_op op_mod (pe_gi rfl T.c_PARTS_OF_ONE) (pv 2)) pe_int (nomark _)) (pw_and1 (pt_cmpR op_eq (pe_op op_mod (pv 0) (pv 2)) pe_int (nomark _))))))) (fun _ _ _ _ _ => (pv 2))) pa_nil)))
      (pss_one (ps_ret (pe_lst (pa_cons (pe_op op_fdiv (pv 0) (pv 1)) (pa_cons (pe_op op_fdiv (pe_gi rfl T.c_PARTS_OF_ONE) (pv 1)) pa_nil))))), ?_⟩
    have hpos := (mem_commons.mp (common_mem c)).1
    have hle : common c ≤ 60 := Nat.le_of_dvd (by decide) (mem_commons.mp (common_mem c)).2.1
    refine q_asg (v := ni (common c)) (ev_maxN (ns := (commons c).map fun (n : Nat) => (n : Int)) (m := (common c : Int)) ?_ (List.mem_map.mpr ⟨_, common_mem c, rfl⟩) (fun y hy => ?_)) (fun H1 e1 => ?_)
    · have key := el_rng1F (t := tAnd (tTest (tOp rEq (tOp (rI (fun _ j => 0 < j) fun i j => .int (i % j)) (tC (.int 60)) (tVar 2)) (tC (.int 0)))) (tTest (tOp rEq (tOp (rI (fun _ j => 0 < j) fun i j => .int (i % j)) (tVar 0) (tVar 2)) (tC (.int 0))))) (te := tVar 2) (σ := start ["count", "common", "size"] [.int c]) (H := H) (j := 2) (vs := [2]) (n := 60)
        (ta := tCons (tC (.int 1)) (tCons (tOp (rI0 fun i j => .int (i + j)) (tC (.int 60)) (tC (.int 1))) tNil)) (fun s => decide (60 % s = 0) && decide (c % (s : Int) = 0)) ni (ea_cons ev_c (ea_cons (ev_op ev_c ev_c rv_I0) ea_nil)) (by decide) (fun _ => rfl)
        (fun i hi => et_is (et_and (ev_eqI (ev_op ev_c (ev_var (v := ni (i + 1)) rfl) (rv_I (by omega))) ev_c) (fun _ => ev_eqI (ev_op (ev_var rfl) (ev_var (v := ni (i + 1)) rfl) (rv_I (by omega))) ev_c)) (by
          congr 1
          have e60 : ((60 % (i + 1) : Nat) : Int) = (60 : Int) % ((i + 1 : Nat) : Int) := Int.natCast_emod 60 (i + 1)
          rw [Bool.eq_iff_iff, decide_eq_true_eq, decide_eq_true_eq, ← e60]
          omega))
        (fun i hi _ => ev_var rfl)
      rw [iv, List.map_map]
      exact key
    · obtain ⟨n, hn, rfl⟩ := List.mem_map.mp hy
      have := common_top hn
      omega
    · refine s_retL (el_lst (ea_cons (ev_op (ev_var rfl) (ev_var (v := ni (common c)) rfl) (rv_I ⟨by omega, by omega⟩)) (ea_cons (ev_op ev_c (ev_var (v := ni (common c)) rfl) (rv_I ⟨by omega, by omega⟩)) ea_nil)) (by show 2 ≤ 100000; decide)) (fun p H2 hp e2 h2 => q p H2 (fresh_back e1 hp) (e1.trans e2) h2)
theorem sl_as_fraction {c : Int} {H : Hp} : SpL sp_as_fraction [.int c] H (iv (fr2 c)) := fun H1 e Q q E => ⟨c, rfl, q⟩
/-! as_fractions -/
def sp_as_fractions (K : PySem.W.Frag) : Sp := fun vs H Q _ => ∃ (a : Addr) (x : List Int), vs = [.ref a] ∧ SqL K H a (iv x) ∧ x.length ≤ 40000 ∧ RetL (iv (x.flatMap fr2)) H Q
theorem flat2_len (x : List Int) : (x.flatMap fr2).length = 2 * x.length := by
  induction x with
  | nil => rfl
  | cons c x ih => rw [List.flatMap_cons, List.length_append, ih, List.length_cons]; show 2 + 2 * x.length = _; omega
theorem ok_as_fractions (T : Txt K mg A) (k : Nat) : Ok P w K mg base "as_fractions" ["parts"] (k + 2) (sp_as_fractions K) := by
  have o_as_fraction := ok_as_fraction (P := P) (w := w) (base := base) T k
  refine ok_of T.h_as_fractions sc_as_fractions (fun vs H Q E h => ?_) (fun f cdv A outer s H vs Q E hr h => ?_)
  · obtain ⟨a, x, rfl, _⟩ := h
    rfl
  · obtain ⟨a, x, rfl, ha, hl, q⟩ := h
    refine ⟨_, pss_cons (ps_set (i := 1) sc_as_fractions.nd rfl (.inl rfl) (pe_lst pa_nil))
      (pss_cons (ps_for PassesOwn.never rfl (pi_list (pv 0)) (pg_name (i := 2) sc_as_fractions.nd rfl (.inl rfl)) (pss_one (ps_expr (pe_bm PySem.F.plainAttrs_list PySem.F.slot_list_extend PySem.F.type_list_extend mt_extend (pv 1) (pa_cons (pe_ok o_as_fraction hr (by rfl) (pa_cons (pv 2) pa_nil)) pa_nil)))))
      (pss_one (ps_ret (pv 1)))), ?_⟩
    refine q_asgL (el_lst ea_nil (by decide)) (fun p H1 np e1 h1 => ?_)
    refine q_forLn (ev_var rfl) (ex_l e1 ha) (fun i σ' H' => Ex H H' ∧ (∃ u, σ' = [some (.ref a), some (.ref p), u]) ∧ H' p = some (.lst (iv ((x.take i).flatMap fr2)))) (fun H2 e2 => ⟨e1.trans e2, ⟨none, rfl⟩, e2 _ _ h1⟩) (fun i σ' H' _ pv => ex_l pv.1 ha) (fun i y σ' H' hi pv => ?_) (fun σ' H' pv => ?_)
    · obtain ⟨e2, ⟨u, rfl⟩, hp2⟩ := pv
      obtain ⟨c, hc, rfl⟩ := iv_get hi
      have hb : (iv ((x.take i).flatMap fr2)).length ≤ 80000 := by
        rw [iv, List.length_map, flat2_len, List.length_take]
        omega
      refine s_extL hp2 (ev_var rfl) (el_call (ea_cons (ev_var rfl) ea_nil) sl_as_fraction) (by have : (iv (fr2 c)).length = 2 := rfl; omega) (fun H3 e3 => ⟨Ex.mut (e2.trans e3) np, ⟨_, rfl⟩, ?_⟩)
      rw [upd_same, List.take_add_one, hc, List.flatMap_append, iv, iv, iv, List.map_append]
      simp
    · obtain ⟨e2, ⟨u, rfl⟩, hp2⟩ := pv
      rw [iv, List.length_map, List.take_length] at hp2
      exact s_ret (ev_var rfl) (fun H4 e4 => q p H4 np (e2.trans e4) (e4 _ _ hp2))
theorem sl_as_fractions {a : Addr} {x : List Int} {H : Hp} (ha : SqL K H a (iv x)) (hl : x.length ≤ 40000) : SpL (sp_as_fractions K) [.ref a] H (iv (x.flatMap fr2)) := fun H1 e Q q E => ⟨a, x, rfl, ex_l e ha, hl, q⟩
/-! left_to -/
def sp_left_to (K : PySem.W.Frag) : Sp := fun vs H Q _ => ∃ (a b : Addr) (f : Dr01.Fun) (x : List Int) (c : Nat), vs = [.ref a, .ref b, ni c] ∧ SqL K H a (iv f.vals) ∧ SqL K H b (iv x) ∧ Wf f ∧ x.length = f.many ∧ c < 2 ^ f.many ∧ RetV (.int (left f x c)) H Q
theorem ok_left_to (T : Txt K mg A) (k : Nat) : Ok P w K mg base "left_to" ["function", "parts", "chosen"] (k + 4) (sp_left_to K) := by
  have o_together := ok_together (P := P) (w := w) (base := base) T k
  refine ok_of T.h_left_to sc_left_to (fun vs H Q E h => ?_) (fun f cdv A outer s H vs Q E hr h => ?_)
  · obtain ⟨a, b, f, x, c, rfl, _⟩ := h
    rfl
  · obtain ⟨a, b, f, x, c, rfl, ha, hb, wf, hl, hc, q⟩ := h
    refine ⟨_, pss_one (ps_ret (pe_op op_sub (pe_op op_mul (pe_gi rfl T.c_PARTS_OF_ONE) (pe_ix ix_list (pv 0) (pv 2) (fun _ _ => rfl))) (pe_ok o_together hr (by rfl) (pa_cons (pv 1) (pa_cons (pv 2) pa_nil))))), ?_⟩
    have hm := wf.hi
    have e2 : (iv f.vals)[c]? = some (.int (Dr01.val f c)) := by
      rw [iv, List.getElem?_map, wf.at hc]
      rfl
    exact s_ret (ev_op (ev_op ev_c (ev_ixN (ev_var rfl) (ev_var rfl) ha e2) (rv_I (.inl ⟨by decide, by decide⟩))) (ev_call (ea_cons (ev_var rfl) (ea_cons (ev_var rfl) ea_nil)) (sv_together hb (by omega) (wf.lt hc))) rv_I0) q
theorem sv_left_to {a b : Addr} {f : Dr01.Fun} {x : List Int} {c : Nat} {H : Hp} (ha : SqL K H a (iv f.vals)) (hb : SqL K H b (iv x)) (wf : Wf f) (hl : x.length = f.many) (hc : c < 2 ^ f.many) : SpV (sp_left_to K) [.ref a, .ref b, ni c] H (.int (left f x c)) :=
  fun H1 e Q q E => ⟨a, b, f, x, c, rfl, ex_l e ha, ex_l e hb, wf, hl, hc, q⟩
/-! tight_sets -/
def sp_tight_sets (K : PySem.W.Frag) : Sp := fun vs H Q _ => ∃ (a b : Addr) (f : Dr01.Fun) (x : List Int), vs = [.ref a, .ref b] ∧ SqL K H a (iv f.vals) ∧ SqL K H b (iv x) ∧ Wf f ∧ x.length = f.many ∧ RetL (nv (tights f x)) H Q
theorem ok_tight_sets (T : Txt K mg A) (k : Nat) : Ok P w K mg base "tight_sets" ["function", "parts"] (k + 5) (sp_tight_sets K) := by
  have o_left_to := ok_left_to (P := P) (w := w) (base := base) T k
  refine ok_of T.h_tight_sets sc_tight_sets (fun vs H Q E h => ?_) (fun f cdv A outer s H vs Q E hr h => ?_)
  · obtain ⟨a, b, f, x, rfl, _⟩ := h
    rfl
  · obtain ⟨a, b, f, x, rfl, ha, hb, wf, hl, q⟩ := h
    refine ⟨_, pss_one (ps_ret (pe_lc (own := [("chosen", 2)]) (g := gName 2) rfl sc_tight_sets.nd (pi_range1 (by rfl) T.b_range (pa_cons (pe_callB call_len_seq (by rfl) T.b_len PySem.boot_len (pa_cons (pv 0) pa_nil)) pa_nil)) (blkOk_by (own := [("chosen", 2)]) (N := ["function", "parts", "chosen"]) (sc := defScope s_tight_sets) (by decide +kernel)) (fun _ _ _ _ _ => (pg_name (i := 2) sc_tight_sets.nd rfl (.inl rfl))) (fun _ _ _ _ _ => (pts_one (pt_cmpR op_eq (pe_ok o_left_to hr (by rfl) (pa_cons (pv 0) (pa_cons (pv 1) (pa_cons (pv 2) pa_nil)))) pe_int (nomark _)))) (fun _ _ _ _ _ => (pv 2)))), ?_⟩
    have hp := pow_le wf.hi
    have hlen : (iv f.vals).length = 2 ^ f.many := by rw [iv, List.length_map, wf.len]
    exact s_retL (el_rngF (n := 2 ^ f.many) (fun s => decide (left f x s = 0)) ni (ea_cons (ev_is (ev_lenL (ev_var rfl) ha rfl) (by rw [hlen])) ea_nil) (by omega) (fun _ => rfl)
      (fun i hi => ev_eqI (ev_call (ea_cons (ev_var rfl) (ea_cons (ev_var rfl) (ea_cons (ev_var rfl) ea_nil))) (sv_left_to ha hb wf hl hi)) ev_c) (fun i hi _ => ev_var rfl)) q
theorem sl_tight_sets {a b : Addr} {f : Dr01.Fun} {x : List Int} {H : Hp} (ha : SqL K H a (iv f.vals)) (hb : SqL K H b (iv x)) (wf : Wf f) (hl : x.length = f.many) : SpL (sp_tight_sets K) [.ref a, .ref b] H (nv (tights f x)) :=
  fun H1 e Q q E => ⟨a, b, f, x, rfl, ex_l e ha, ex_l e hb, wf, hl, q⟩
theorem mem_tights {f : Dr01.Fun} {x : List Int} {s : Nat} (h : s ∈ tights f x) : s < 2 ^ f.many := List.mem_range.mp (List.mem_filter.mp h).1
/-! common_to_tight_sets -/
def sp_common_to_tight_sets (K : PySem.W.Frag) : Sp := fun vs H Q _ => ∃ (a b : Addr) (f : Dr01.Fun) (x : List Int) (t : Nat), vs = [.ref a, .ref b, ni t] ∧ SqL K H a (iv f.vals) ∧ SqL K H b (iv x) ∧ Wf f ∧ x.length = f.many ∧ 1 ≤ t ∧ t ≤ f.many ∧ RetV (ni (arounds f x t)) H Q
theorem ok_common_to_tight_sets (T : Txt K mg A) (k : Nat) : Ok P w K mg base "common_to_tight_sets" ["function", "parts", "thing"] (k + 6) (sp_common_to_tight_sets K) := by
  have o_tight_sets := ok_tight_sets (P := P) (w := w) (base := base) T k
  have o_has := ok_has (P := P) (w := w) (base := base) T (k + 3)
  refine ok_of T.h_common_to_tight_sets sc_common_to_tight_sets (fun vs H Q E h => ?_) (fun f cdv A outer s H vs Q E hr h => ?_)
  · obtain ⟨a, b, f, x, t, rfl, _⟩ := h
    rfl
  · obtain ⟨a, b, f, x, t, rfl, ha, hb, wf, hl, h1, h2, q⟩ := h
    refine ⟨_, pss_cons (ps_set (i := 3) sc_common_to_tight_sets.nd rfl (.inl rfl) (pe_op op_sub (pe_callB call_len_seq (by rfl) T.b_len PySem.boot_len (pa_cons (pv 0) pa_nil)) pe_int))
      (pss_cons (ps_for PassesOwn.never rfl (pi_list (pe_ok o_tight_sets hr (by rfl) (pa_cons (pv 0) (pa_cons (pv 1) pa_nil)))) (pg_name (i := 4) sc_common_to_tight_sets.nd rfl (.inl rfl)) (pss_one (ps_if (pt_val (pe_ok o_has hr (by rfl) (pa_cons (pv 4) (pa_cons (pv 2) pa_nil)))) (pss_one (ps_set (i := 3) sc_common_to_tight_sets.nd rfl (.inl rfl) (pe_op op_and (pv 3) (pv 4)))) pss_nil)))
      (pss_one (ps_ret (pv 3)))), ?_⟩
    have hm := wf.hi
    have hp := pow_le wf.hi
    have hpos : 0 < 2 ^ f.many := Nat.pos_of_ne_zero (by simp)
    have hlen : (iv f.vals).length = 2 ^ f.many := by rw [iv, List.length_map, wf.len]
    refine q_asg (v := ni (2 ^ f.many - 1)) (ev_is (ev_op (ev_is (ev_lenL (ev_var rfl) ha rfl) (by rw [hlen]; rfl)) ev_c rv_I0) (by show V.int (((2 ^ f.many : Nat) : Int) - 1) = V.int ((2 ^ f.many - 1 : Nat) : Int); congr 1; omega)) (fun H1 e1 => ?_)
    refine q_forNLn (xs := nv (tights f x)) (el_call (ea_cons (ev_var rfl) (ea_cons (ev_var rfl) ea_nil)) (sl_tight_sets (ex_l e1 ha) (ex_l e1 hb) wf hl))
      (fun p i σ' H' => Ex H H' ∧ H' p = some (.lst (nv (tights f x))) ∧ ∃ u, σ' = [some (.ref a), some (.ref b), some (ni t), some (ni ((((tights f x).take i).filter fun s => Dr01.has s t).foldl (fun a b => a &&& b) (2 ^ f.many - 1))), u])
      (fun p H2 np e2 h2 => ⟨e1.trans e2, h2, none, rfl⟩) (fun p i σ' H' _ pv => sq_of pv.2.1) (fun p i y σ' H' hi pv => ?_) (fun p σ' H' pv => ?_)
    · obtain ⟨e2, h2', u, rfl⟩ := pv
      obtain ⟨c, hc, rfl⟩ := nv_get hi
      have hc' := mem_tights (List.mem_of_getElem? hc)
      refine s_when (et_B (ev_call (ea_cons (ev_var (v := ni c) rfl) (ea_cons (ev_var rfl) ea_nil)) (sv_has (wf.lt hc') h1 (by omega)))) (fun hw H3 e3 => ?_) (fun hw H3 e3 => ?_)
      · refine s_asg (ev_andN (b := c) (ev_var rfl) (ev_var rfl)) (fun H4 e4 => ⟨(e2.trans e3).trans e4, e4 _ _ (e3 _ _ h2'), some (ni c), ?_⟩)
        rw [List.take_add_one, hc, List.filter_append, List.foldl_append]
        simp only [Option.toList_some, List.filter_cons, hw, if_true, List.filter_nil, List.foldl_cons, List.foldl_nil]
        rfl
      · refine ⟨e2.trans e3, e3 _ _ h2', some (ni c), ?_⟩
        rw [List.take_add_one, hc, List.filter_append]
        simp only [Option.toList_some, List.filter_cons, hw, Bool.false_eq_true, if_false, List.filter_nil, List.append_nil]
        rfl
    · obtain ⟨e2, h2', u, rfl⟩ := pv
      refine s_ret (ev_is (ev_var rfl) ?_) (fun H4 e4 => q H4 (e2.trans e4))
      rw [nv, List.length_map, List.take_length]
      rfl
theorem sv_common_to_tight_sets {a b : Addr} {f : Dr01.Fun} {x : List Int} {t : Nat} {H : Hp} (ha : SqL K H a (iv f.vals)) (hb : SqL K H b (iv x)) (wf : Wf f) (hl : x.length = f.many) (h1 : 1 ≤ t) (h2 : t ≤ f.many) : SpV (sp_common_to_tight_sets K) [.ref a, .ref b, ni t] H (ni (arounds f x t)) :=
  fun H1 e Q q E => ⟨a, b, f, x, t, rfl, ex_l e ha, ex_l e hb, wf, hl, h1, h2, q⟩
/-! room_between -/
/-- the least of what is left between -/
def roomI (f : Dr01.Fun) (x : List Int) (i j : Nat) : Int := (betw f i j).foldl (fun m s => min m (left f x s)) (left f x (Dr01.with_ 0 i))
theorem roomI_mem {f : Dr01.Fun} (w : Wf f) (x : List Int) {i j : Nat} (hi : 1 ≤ i) (hi2 : i ≤ f.many) (hj : 1 ≤ j) (hj2 : j ≤ f.many) (hne : i ≠ j) : roomI f x i j ∈ (betw f i j).map (left f x) ∧ ∀ y ∈ (betw f i j).map (left f x), roomI f x i j ≤ y := by
  have h0 := one_betw w hi hi2 hj hj2 hne
  obtain ⟨a, b, c⟩ := fold_min_le (left f x) (betw f i j) (left f x (Dr01.with_ 0 i))
  refine ⟨?_, fun y hy => ?_⟩
  · rcases c with c | ⟨s, hs, c⟩
    · exact List.mem_map.mpr ⟨_, h0, c.symm⟩
    · exact List.mem_map.mpr ⟨s, hs, c.symm⟩
  · obtain ⟨s, hs, rfl⟩ := List.mem_map.mp hy
    exact b s hs
def sp_room_between (K : PySem.W.Frag) : Sp := fun vs H Q _ => ∃ (a b : Addr) (f : Dr01.Fun) (x : List Int) (i j : Nat), vs = [.ref a, .ref b, ni i, ni j] ∧ SqL K H a (iv f.vals) ∧ SqL K H b (iv x) ∧ Wf f ∧ x.length = f.many ∧ 1 ≤ i ∧ i ≤ f.many ∧ 1 ≤ j ∧ j ≤ f.many ∧ i ≠ j ∧ RetV (.int (roomI f x i j)) H Q
theorem ok_room_between (T : Txt K mg A) (k : Nat) : Ok P w K mg base "room_between" ["function", "parts", "gainer", "giver"] (k + 5) (sp_room_between K) := by
  have o_left_to := ok_left_to (P := P) (w := w) (base := base) T k
  have o_has := ok_has (P := P) (w := w) (base := base) T (k + 2)
  refine ok_of T.h_room_between sc_room_between (fun vs H Q E h => ?_) (fun f cdv A outer s H vs Q E hr h => ?_)
  · obtain ⟨a, b, f, x, i, j, rfl, _⟩ := h
    rfl
  · obtain ⟨a, b, f, x, i, j, rfl, ha, hb, wf, hl, hi, hi2, hj, hj2, hne, q⟩ := h
    refine ⟨_, pss_cons (ps_setLc (i := 4) (own := [("chosen", 5)]) (g := gName 5) rfl sc_room_between.nd rfl rfl (sw_true rfl rfl rfl (by decide +kernel)) (pi_range1 (by rfl) T.b_range (pa_cons (pe_callB call_len_seq (by rfl) T.b_len PySem.boot_len (pa_cons (pv 0) pa_nil)) pa_nil)) (blkOk_by (own := [("chosen", 5)]) (N := ["function", "parts", "gainer", "giver", "between", "chosen"]) (sc := defScope s_room_between) (by decide +kernel)) (fun _ _ _ _ _ => (pg_name (i := 5) sc_room_between.nd rfl (.inl rfl))) (fun _ _ _ _ _ => (pts_one (PW.pt (pw_and (pt_val (pe_ok o_has hr (by rfl) (pa_cons (pv 5) (pa_cons (pv 2) pa_nil)))) (pw_and1 (pt_not (pt_val (pe_ok o_has hr (by rfl) (pa_cons (pv 5) (pa_cons (pv 3) pa_nil)))))))))) (fun _ _ _ _ _ => (pv 5)))
      (pss_one (ps_ret (pe_callB (cr_min rfl) (by rfl) T.b_min (by decide +kernel) (pa_cons (pe_lc (own := [("chosen", 5)]) (g := gName 5) (tt := tYes) rfl sc_room_between.nd (pi_list (pv 4)) (blkOk_by (own := [("chosen", 5)]) (N := ["function", "parts", "gainer", "giver", "between", "chosen"]) (sc := defScope s_room_between) (by decide +kernel)) (fun _ _ _ _ _ => (pg_name (i := 5) sc_room_between.nd rfl (.inl rfl))) (fun _ _ _ _ _ => pts_nil) (fun _ _ _ _ _ => (pe_ok o_left_to hr (by rfl) (pa_cons (pv 0) (pa_cons (pv 1) (pa_cons (pv 5) pa_nil)))))) pa_nil)))), ?_⟩
    have hm := wf.hi
    have hp := pow_le wf.hi
    have hlen : (iv f.vals).length = 2 ^ f.many := by rw [iv, List.length_map, wf.len]
    refine q_asgL (xs := nv (betw f i j)) (el_rngF (n := 2 ^ f.many) (fun s => Dr01.has s i && !Dr01.has s j) ni (ea_cons (ev_is (ev_lenL (ev_var rfl) ha rfl) (by rw [hlen])) ea_nil) (by omega) (fun _ => rfl)
      (fun c hc => et_and (et_B (ev_call (ea_cons (ev_var rfl) (ea_cons (ev_var rfl) ea_nil)) (sv_has (wf.lt hc) hi (by omega)))) (fun _ => et_not (et_B (ev_call (ea_cons (ev_var rfl) (ea_cons (ev_var rfl) ea_nil)) (sv_has (wf.lt hc) hj (by omega)))))) (fun c hc _ => ev_var rfl)) (fun p H1 np e1 h1 => ?_)
    obtain ⟨hm1, hm2⟩ := roomI_mem wf x hi hi2 hj hj2 hne
    refine s_ret (ev_minN (ns := (betw f i j).map (left f x)) ?_ hm1 hm2) (fun H2 e2 => q H2 (e1.trans e2))
    rw [iv, List.map_map]
    refine el_mapA (l := betw f i j) (en := ni) _ (ev_var rfl) (sq_of h1) ?_ (fun _ => rfl) (fun s hs => ev_call (ea_cons (ev_var rfl) (ea_cons (ev_var rfl) (ea_cons (ev_var rfl) ea_nil))) (sv_left_to (ex_l e1 ha) (ex_l e1 hb) wf hl (List.mem_range.mp (List.mem_filter.mp hs).1)))
    unfold betw
    exact Nat.le_trans (List.length_filter_le _ _) (by rw [List.length_range]; exact Nat.le_trans hp (by decide))
theorem sv_room_between {a b : Addr} {f : Dr01.Fun} {x : List Int} {i j : Nat} {H : Hp} (ha : SqL K H a (iv f.vals)) (hb : SqL K H b (iv x)) (wf : Wf f) (hl : x.length = f.many) (hi : 1 ≤ i) (hi2 : i ≤ f.many) (hj : 1 ≤ j) (hj2 : j ≤ f.many) (hne : i ≠ j) : SpV (sp_room_between K) [.ref a, .ref b, ni i, ni j] H (.int (roomI f x i j)) :=
  fun H1 e Q q E => ⟨a, b, f, x, i, j, rfl, ex_l e ha, ex_l e hb, wf, hl, hi, hi2, hj, hj2, hne, q⟩
end
end Sh
namespace Sh
open PySem PySem.Spec PyProof.Rows L2 Evl LamX NdefX
section
variable {P : Program} {w : World} {K : PySem.W.Frag} {mg : Str → Option Value} {base : Heap} {A : Adr}
/-- p is none of what H knows, tables aside -/
def NewN (H : Hp) (p : Addr) : Prop := ∀ b o, H b = some o → (∀ ps, o ≠ .tbl ps) → b ≠ p
theorem NewN.of {H H1 : Hp} {p : Addr} (e : ExtN H H1) (h : H1 p = none) : NewN H p := fun b o hb ho z => by
  have := e b o hb ho
  rw [z, h] at this
  cases this
/-! base_by_greed -/
def sp_base_by_greed (K : PySem.W.Frag) (Ts : List (Addr × Str)) : Sp := fun vs H Q _ => ∃ (a b : Addr) (f : Dr01.Fun) (ws : List Int), vs = [.ref a, .ref b] ∧ SqL K H a (iv f.vals) ∧ SqL K H b (iv ws) ∧ Wf f ∧ ws.length = f.many ∧ Tabs Ts H ∧
  ∀ p H2, NewN H p → ExtN H H2 → Tabs Ts H2 → H2 p = some (.lst (iv (Dr02.greedy f ws))) → Q (.ref p) H2
theorem ok_base_by_greed (T : Txt K mg A) {c Pt : Addr} (hC : HasC K mg "order_by_weight" s_order_by_weight ["weights"] c) (TB : TabB base mg c Pt) {Ts : List (Addr × Str)} (hT : (Pt, lamQ) ∈ Ts) (hu : ∀ p ∈ Ts, p.1 = Pt → p.2 = lamQ) (k : Nat) : Ok P w K mg base "base_by_greed" ["function", "weights"] (k + 5) (sp_base_by_greed K Ts) := by
  have o_order_by_weight := ok_order_by_weight (P := P) (w := w) (base := base) T hC TB hT hu k
  have o_base_by_order := ok_base_by_order (P := P) (w := w) (base := base) T (k + 1)
  refine ok_of T.h_base_by_greed sc_base_by_greed (fun vs H Q E h => ?_) (fun f cdv A outer s H vs Q E hr h => ?_)
  · obtain ⟨a, b, f, ws, rfl, _⟩ := h
    rfl
  · obtain ⟨a, b, f, ws, rfl, ha, hb, wf, hl, hTs, q⟩ := h
    refine ⟨_, pss_one (ps_ret (pe_ok o_base_by_order hr (by rfl) (pa_cons (pv 0) (pa_cons (pe_ok o_order_by_weight hr (by rfl) (pa_cons (pv 1) pa_nil)) pa_nil)))), ?_⟩
    refine ⟨_, rfl, _, rfl, b, f, ws, rfl, hb, hl, wf.hi, hTs, fun p H1 ex tabs h1 => ?_⟩
    exact ⟨a, p, f, Dr02.byWeight f ws, rfl, sq_extN ex ha, sq_of h1, wf, byWeight_perm f ws, fun r H2 nr e2 h2 => q r H2 (NewN.of ex nr) (ex.trans (ExtN.of e2)) (tabs.ext e2) h2⟩
/-! means_beside -/
abbrev ent (f : Dr01.Fun) (t c : Nat) : L2.Key × V := (Sum.inl (c : Int), V.int (mean f t c))
def sp_means_beside (K : PySem.W.Frag) : Sp := fun vs H Q _ => ∃ (a : Addr) (f : Dr01.Fun) (t : Nat), vs = [.ref a, ni t] ∧ SqL K H a (iv f.vals) ∧ Wf f ∧ t < 2 ^ f.many ∧ ∀ p H2, H p = none → Ex H H2 → H2 p = some (.dK ((cand f t).map (ent f t))) → Q (.ref p) H2
def candR (t n : Nat) : List Nat := (List.range n).filter fun s => decide (s &&& t = 0) && decide (s ≠ 0)
theorem candR_one (t : Nat) : candR t 1 = [] := by
  unfold candR
  simp
theorem candR_yes {t n : Nat} (h : n &&& t = 0) (h0 : n ≠ 0) : candR t (n + 1) = candR t n ++ [n] := by
  unfold candR
  rw [List.range_succ, List.filter_append]
  simp [h, h0]
theorem candR_no {t n : Nat} (h : ¬ n &&& t = 0) : candR t (n + 1) = candR t n := by
  unfold candR
  rw [List.range_succ, List.filter_append]
  simp [h]
theorem put_new {kvs : List (L2.Key × V)} {k : L2.Key} {v : V} (h : ∀ kv ∈ kvs, kv.1 ≠ k) : putK kvs k v = kvs ++ [(k, v)] := by
  unfold putK
  rw [if_neg]
  intro z
  obtain ⟨kv, hkv, e⟩ := List.any_eq_true.mp z
  exact h kv hkv (of_decide_eq_true e)
theorem ok_means_beside (T : Txt K mg A) (k : Nat) : Ok P w K mg base "means_beside" ["function", "settled"] (k + 4) (sp_means_beside K) := by
  have o_size_of := ok_size_of (P := P) (w := w) (base := base) T k
  refine ok_of T.h_means_beside sc_means_beside (fun vs H Q E h => ?_) (fun f cdv A outer s H vs Q E hr h => ?_)
  · obtain ⟨a, f, t, rfl, _⟩ := h
    rfl
  · obtain ⟨a, f, t, rfl, ha, wf, ht, q⟩ := h
    refine ⟨_, pss_cons (ps_set (i := 2) sc_means_beside.nd rfl (.inl rfl) pe_dnewK)
      (pss_cons (ps_for PassesOwn.never rfl (pi_range2 (by rfl) T.b_range (pa_cons pe_int (pa_cons (pe_callB call_len_seq (by rfl) T.b_len PySem.boot_len (pa_cons (pv 0) pa_nil)) pa_nil))) (pg_name (i := 3) sc_means_beside.nd rfl (.inl rfl)) (pss_one (ps_if (pt_cmpR op_eq (pe_op op_and (pv 3) (pv 1)) pe_int (nomark _)) (pss_one (ps_dput (hu_of hr) (pv 2) (pv 3) (pe_op op_fdiv (pe_op op_mul (pe_gi rfl T.c_PARTS_OF_ONE) (pe_op op_sub (pe_ix ix_list (pv 0) (pe_op op_or (pv 1) (pv 3)) (fun _ _ => rfl)) (pe_ix ix_list (pv 0) (pv 1) (fun _ _ => rfl)))) (pe_ok o_size_of hr (by rfl) (pa_cons (pv 3) pa_nil))) rfl)) pss_nil)))
      (pss_one (ps_ret (pv 2)))), ?_⟩
    have hm := wf.hi
    have hp := pow_le hm
    have hlen : (iv f.vals).length = 2 ^ f.many := by rw [iv, List.length_map, wf.len]
    intro d nd
    have e0 : Ex H (upd H d (.dK [])) := Ex.new nd
    have h0 : (upd H d (.dK [])) d = some (.dK []) := upd_same
    generalize upd H d (.dK []) = H0 at e0 h0
    refine q_forR2 (lo := 1) (n := ((2 ^ f.many : Nat) : Int)) (ea_cons ev_c (ea_cons (ev_is (ev_lenL (ev_var rfl) (ex_l e0 ha) rfl) (by rw [hlen]; rfl)) ea_nil)) ⟨by decide, by decide, by omega, by omega⟩
      (fun i σ' H' => Ex H H' ∧ (∃ u, σ' = [some (.ref a), some (ni t), some (.ref d), u]) ∧ H' d = some (.dK ((candR t (i + 1)).map (ent f t)))) (fun H1 e1 => ⟨e0.trans e1, ⟨none, rfl⟩, ?_⟩) (fun i σ' H' hi pv => ?_) (fun σ' H' pv => ?_)
    · rw [e1 _ _ h0, candR_one]
      rfl
    · obtain ⟨e1, ⟨u, rfl⟩, hd1⟩ := pv
      have ei : (1 : Int) + (i : Int) = ((i + 1 : Nat) : Int) := by omega
      rw [ei]
      have hi' : i + 1 < 2 ^ f.many := by omega
      have ha1 := ex_l e1 ha
      refine s_when (et_is (ev_eqI (ev_andN (a := i + 1) (b := t) (ev_var rfl) (ev_var rfl)) ev_c) (b := decide ((i + 1) &&& t = 0)) (by rw [Bool.eq_iff_iff, decide_eq_true_eq, decide_eq_true_eq]; omega)) (fun hw H2 e2 => ?_) (fun hw H2 e2 => ?_)
      · have hor : t ||| (i + 1) < 2 ^ f.many := Nat.or_lt_two_pow ht hi'
        have g1 : (iv f.vals)[t ||| (i + 1)]? = some (.int (Dr01.val f (t ||| (i + 1)))) := by
          rw [iv, List.getElem?_map, wf.at hor]
          rfl
        have g2 : (iv f.vals)[t]? = some (.int (Dr01.val f t)) := by
          rw [iv, List.getElem?_map, wf.at ht]
          rfl
        have hs1 := size_pos (n := f.many) (by omega) hi' (by omega)
        have hs2 := size_le (n := f.many) (by omega) hi'
        have hmean : Ev (tOp (rI CDiv fun i j => .int (i / j)) (tOp (rI CMul fun i j => .int (i * j)) (tC (.int 60)) (tOp (rI0 fun i j => .int (i - j)) (tOp (rIxL K) (tVar 0) (tOp (rI0 fun i j => .int (Builtin.bitOr i j)) (tVar 1) (tVar 3))) (tOp (rIxL K) (tVar 0) (tVar 1)))) (tCall sp_size_of [] E0 (tCons (tVar 3) tNil)))
            [some (.ref a), some (ni t), some (.ref d), some (ni (i + 1))] H2 (.int (mean f t (i + 1))) :=
          ev_op (ev_op ev_c (ev_op (ev_ixN (ev_var rfl) (ev_orN (ev_var rfl) (ev_var rfl)) (ex_l e2 ha1) g1) (ev_ixN (ev_var rfl) (ev_var rfl) (ex_l e2 ha1) g2) rv_I0) (rv_I (.inl ⟨by decide, by decide⟩))) (ev_call (ea_cons (ev_var (v := ni (i + 1)) rfl) ea_nil) (sv_size_of hm hi')) (rv_I ⟨by omega, by omega⟩)
        refine hmean H2 (Ex.refl _) _ fun H3 e3 => ?_
        have hd3 := e3 _ _ (e2 _ _ hd1)
        have hkl : ((candR t (i + 1)).map (ent f t)).length ≤ i + 1 := by
          rw [List.length_map]
          unfold candR
          exact Nat.le_trans (List.length_filter_le _ _) (by rw [List.length_range]; exact Nat.le_refl _)
        refine ⟨.ref d, rfl, ni (i + 1), rfl, d, _, rfl, DPut.k (k := Sum.inl ((i + 1 : Nat) : Int)) hd3 (Nat.lt_of_le_of_lt hkl (sz_lt (by omega))), Ex.mut ((e1.trans e2).trans e3) nd, ⟨_, rfl⟩, ?_⟩
        rw [upd_same, put_new]
        · rw [candR_yes (of_decide_eq_true hw) (by omega), List.map_append]
          rfl
        · intro kv hkv z
          obtain ⟨c, hc, rfl⟩ := List.mem_map.mp hkv
          have := List.mem_range.mp (List.mem_filter.mp hc).1
          have e5 : ((c : Int)) = ((i + 1 : Nat) : Int) := Sum.inl.inj z
          omega
      · refine ⟨e1.trans e2, ⟨_, rfl⟩, ?_⟩
        rw [e2 _ _ hd1, candR_no (of_decide_eq_false hw)]
    · obtain ⟨e1, ⟨u, rfl⟩, hd1⟩ := pv
      rw [tn_succ (Nat.pos_of_ne_zero (by simp))] at hd1
      exact s_ret (ev_var rfl) (fun H3 e4 => q d H3 nd (e1.trans e4) (e4 _ _ hd1))
/-! all_with_mean -/
abbrev en2 (g : Nat → Int) (c : Nat) : L2.Key × V := (Sum.inl (c : Int), V.int (g c))
def sp_all_with_mean : Sp := fun vs H Q _ => ∃ (d : Addr) (cs : List Nat) (g : Nat → Int) (m : Int), vs = [.ref d, .int m] ∧ H d = some (.dK (cs.map (en2 g))) ∧ RetV (ni ((cs.filter fun s => decide (g s = m)).foldl (fun a b => a ||| b) 0)) H Q
theorem ok_all_with_mean (T : Txt K mg A) (k : Nat) : Ok P w K mg base "all_with_mean" ["means", "wanted"] (k + 1) sp_all_with_mean := by
  refine ok_of T.h_all_with_mean sc_all_with_mean (fun vs H Q E h => ?_) (fun f cdv A outer s H vs Q E hr h => ?_)
  · obtain ⟨d, cs, g, m, rfl, _⟩ := h
    rfl
  · obtain ⟨d, cs, g, m, rfl, hd, q⟩ := h
    refine ⟨_, pss_cons (ps_set (i := 2) sc_all_with_mean.nd rfl (.inl rfl) pe_int)
      (pss_cons (ps_lock (ps_for PassesOwn.never rfl (pi_items (pv 0)) (pg_tup rfl (pgs_cons (pg_name (i := 3) sc_all_with_mean.nd rfl (.inl rfl)) (pgs_cons (pg_name (i := 4) sc_all_with_mean.nd rfl (.inl rfl)) pgs_nil))) (pss_one (ps_if (pt_cmpR op_eq (pv 4) (pv 1) (nomark _)) (pss_one (ps_set (i := 2) sc_all_with_mean.nd rfl (.inl rfl) (pe_op op_or (pv 2) (pv 3)))) pss_nil))))
      (pss_one (ps_ret (pv 2)))), ?_⟩
    refine q_asg (v := ni 0) ev_c (fun H1 e1 => ?_)
    refine ⟨d, _, e1 _ _ hd, True.intro, fun od => ?_⟩
    refine ⟨.ref d, rfl, d, od, _, rfl, upd_same, ?_⟩
    have back : ∀ H', Ex (upd H1 d (.frz od (.dK (cs.map (en2 g))))) H' → Ex H (upd H' d (.dK (cs.map (en2 g)))) := fun H' e b o hb => by
      by_cases z : b = d
      · rw [z, upd_same, ← hd, ← z, hb]
      · rw [upd_ne z]
        exact e _ _ (by rw [upd_ne z]; exact e1 _ _ hb)
    refine for_it walk_items (fun i σ' H' => Ex (upd H1 d (.frz od (.dK (cs.map (en2 g))))) H' ∧ ∃ x3 x4, σ' = [some (.ref d), some (.int m), some (ni (((cs.take i).filter fun s => decide (g s = m)).foldl (fun a b => a ||| b) 0)), x3, x4]) ⟨Ex.refl _, none, none, rfl⟩ (fun i σ' H' _ pv => pv.1 _ _ upd_same) (fun i x σ' H' H'' hi pv y => ?_) (fun σ' H' pv => ?_)
    · obtain ⟨e2, x3, x4, rfl⟩ := pv
      obtain ⟨T', c1, c2, rfl, nT, rfl, hc1, hc2⟩ := y
      rw [List.length_map] at hi
      obtain ⟨c, hc⟩ : ∃ c, cs[i]? = some c := ⟨_, List.getElem?_eq_getElem hi⟩
      have e3 : c1 = ni c := by
        have hc1' : Option.map (fun kv : L2.Key × V => kV kv.fst) (List.map (en2 g) cs)[i]? = some c1 := hc1
        rw [List.getElem?_map, hc] at hc1'
        exact (Option.some.inj hc1').symm
      have e4 : c2 = .int (g c) := by
        have hc2' : Option.map Prod.snd (List.map (en2 g) cs)[i]? = some c2 := hc2
        rw [List.getElem?_map, hc] at hc2'
        exact (Option.some.inj hc2').symm
      subst e3 e4
      refine ⟨T', [ni c, .int (g c)], rfl, .inl (.inl upd_same), rfl, ni c, [.int (g c)], rfl, .int (g c), [], rfl, rfl, ?_⟩
      have e5 := e2.trans (Ex.new (o := .tup [ni c, .int (g c)]) nT)
      refine s_when (ev_eqI (i := g c) (j := m) (ev_var rfl) (ev_var rfl)) (fun hw H3 e6 => ?_) (fun hw H3 e6 => ?_)
      · refine s_asg (ev_orN (b := c) (ev_var rfl) (ev_var rfl)) (fun H4 e7 => ⟨(e5.trans e6).trans e7, some (ni c), some (.int (g c)), ?_⟩)
        rw [List.take_add_one, hc, List.filter_append, List.foldl_append]
        simp only [Option.toList_some, List.filter_cons, hw, if_true, List.filter_nil, List.foldl_cons, List.foldl_nil]
        rfl
      · refine ⟨e5.trans e6, some (ni c), some (.int (g c)), ?_⟩
        rw [List.take_add_one, hc, List.filter_append]
        simp only [Option.toList_some, List.filter_cons, hw, Bool.false_eq_true, if_false, List.filter_nil, List.append_nil]
        rfl
    · obtain ⟨e2, x3, x4, rfl⟩ := pv
      refine ⟨e2 _ _ upd_same, ?_⟩
      refine s_ret (ev_is (ev_var rfl) ?_) (fun H4 e4 => q H4 ((back H' e2).trans e4))
      rw [List.length_map, List.take_length]
theorem sv_all_with_mean {d : Addr} {cs : List Nat} {g : Nat → Int} {m : Int} {H : Hp} (hd : H d = some (.dK (cs.map (en2 g)))) : SpV sp_all_with_mean [.ref d, .int m] H (ni ((cs.filter fun s => decide (g s = m)).foldl (fun a b => a ||| b) 0)) :=
  fun H1 e Q q E => ⟨d, cs, g, m, rfl, e _ _ hd, q⟩
/-! fairest_parts -/
def sp_fairest_parts (K : PySem.W.Frag) : Sp := fun vs H Q _ => ∃ (a : Addr) (f : Dr01.Fun), vs = [.ref a, ni f.many] ∧ SqL K H a (iv f.vals) ∧ Wf f ∧ RetL (iv (fairP f)) H Q
theorem rep_iv (m : Nat) : (List.replicate m [V.int 0]).flatten = iv (List.replicate m 0) := by
  rw [iv, List.map_replicate]
  induction m with
  | zero => rfl
  | succ m ih => rw [List.replicate_succ, List.flatten_cons, ih, List.replicate_succ]; rfl
theorem parts_nil (f : Dr01.Fun) : partsOf f [] = List.replicate f.many 0 := by
  refine List.ext_getElem? fun i => ?_
  by_cases h : i < f.many
  · rw [partsOf_get h, List.getElem?_replicate, if_pos h]
    rfl
  · rw [List.getElem?_eq_none (by rw [partsOf_len]; omega), List.getElem?_eq_none (by rw [List.length_replicate]; omega)]
theorem ok_fairest_parts (T : Txt K mg A) (k : Nat) : Ok P w K mg base "fairest_parts" ["function", "n"] (k + 5) (sp_fairest_parts K) := by
  have o_means_beside := ok_means_beside (P := P) (w := w) (base := base) T k
  have o_all_with_mean := ok_all_with_mean (P := P) (w := w) (base := base) T (k + 3)
  have o_things_up_to := ok_things_up_to (P := P) (w := w) (base := base) T (k + 3)
  have o_has := ok_has (P := P) (w := w) (base := base) T (k + 2)
  refine ok_of T.h_fairest_parts sc_fairest_parts (fun vs H Q E h => ?_) (fun f cdv A outer s H vs Q E hr h => ?_)
  · obtain ⟨a, f, rfl, _⟩ := h
    rfl
  · obtain ⟨a, f, rfl, ha, wf, q⟩ := h
    refine ⟨_, pss_cons (ps_set (i := 2) sc_fairest_parts.nd rfl (.inl rfl) (pe_op op_rep (pe_lst (pa_cons pe_int pa_nil)) (pv 1)))
      (pss_cons (ps_set (i := 3) sc_fairest_parts.nd rfl (.inl rfl) pe_int)
      (pss_cons (ps_while PassesOwn.never (pt_cmpR op_ne (pv 3) (pe_op op_sub (pe_callB call_len_seq (by rfl) T.b_len PySem.boot_len (pa_cons (pv 0) pa_nil)) pe_int) (nomark _)) (pss_cons (ps_set (i := 4) sc_fairest_parts.nd rfl (.inl rfl) (pe_ok o_means_beside hr (by rfl) (pa_cons (pv 0) (pa_cons (pv 3) pa_nil))))
      (pss_cons (ps_set (i := 5) sc_fairest_parts.nd rfl (.inl rfl) (pe_callB (cr_minV rfl) (by rfl) T.b_min (by decide +kernel) (pa_cons (pe_bm0 PySem.F.plainAttrs_dict PySem.F.slot_dict_values PySem.F.type_dict_values mt_valuesK (pv 4)) pa_nil)))
      (pss_cons (ps_set (i := 6) sc_fairest_parts.nd rfl (.inl rfl) (pe_ok o_all_with_mean hr (by rfl) (pa_cons (pv 4) (pa_cons (pv 5) pa_nil))))
      (pss_cons (ps_for PassesOwn.never rfl (pi_list (pe_ok o_things_up_to hr (by rfl) (pa_cons (pv 1) pa_nil))) (pg_name (i := 7) sc_fairest_parts.nd rfl (.inl rfl)) (pss_one (ps_if (pt_val (pe_ok o_has hr (by rfl) (pa_cons (pv 6) (pa_cons (pv 7) pa_nil)))) (pss_one (ps_asg (pv 5) (pg_sub (pv 2) (pe_op op_sub (pv 7) pe_int) set_list))) pss_nil)))
      (pss_one (ps_set (i := 3) sc_fairest_parts.nd rfl (.inl rfl) (pe_op op_or (pv 3) (pv 6)))))))))
      (pss_one (ps_ret (pv 2))))), ?_⟩
    have hm := wf.hi
    have hp := pow_le hm
    have hpos : 0 < 2 ^ f.many := Nat.pos_of_ne_zero (by simp)
    have hlen : (iv f.vals).length = 2 ^ f.many := by rw [iv, List.length_map, wf.len]
    refine q_asgL (xs := iv (partsOf f [])) (by
      rw [parts_nil, ← rep_iv]
      exact el_rep (k := f.many) (el_lst (ea_cons ev_c ea_nil) (by decide)) (ev_var rfl) (by simp; omega) (by omega)) (fun p H1 np e1 h1 => ?_)
    refine q_asg (v := ni 0) ev_c (fun H2 e2 => ?_)
    refine q_while (fun m σ' H' => Ex H H' ∧ ∃ t l x4 x5 x6 x7, FairInv f t m l ∧ σ' = [some (.ref a), some (ni f.many), some (.ref p), some (ni t), x4, x5, x6, x7] ∧ H' p = some (.lst (iv (partsOf f l)))) f.many
      ⟨e1.trans e2, 0, [], none, none, none, none, FairInv.start f, rfl, e2 _ _ h1⟩ (fun m σ' H' hw => ?_)
    obtain ⟨e3, t, l, x4, x5, x6, x7, FI, rfl, hp3⟩ := hw
    refine ⟨decide (t ≠ full f), et_is (ev_neI (i := (t : Int)) (j := ((full f : Nat) : Int)) (ev_var rfl) (ev_is (ev_op (ev_is (ev_lenL (ev_var rfl) (ex_l e3 ha) rfl) (by rw [hlen]; rfl)) ev_c rv_I0) (by
      show V.int (((2 ^ f.many : Nat) : Int) - 1) = V.int ((2 ^ f.many - 1 : Nat) : Int)
      congr 1
      omega))) (by rw [Bool.eq_iff_iff, decide_eq_true_eq, decide_eq_true_eq]; omega), fun hb H4 e4 => ?_, fun hb H4 e4 => ?_⟩
    · have hne : t ≠ full f := of_decide_eq_true hb
      obtain ⟨k', rfl, FI', hnew⟩ := FI.step wf hne
      refine ⟨fun σ' H' => Ex H H' ∧ ∃ t l x4 x5 x6 x7, FairInv f t k' l ∧ σ' = [some (.ref a), some (ni f.many), some (.ref p), some (ni t), x4, x5, x6, x7] ∧ H' p = some (.lst (iv (partsOf f l))), fun σ2 H2 hn => ⟨k', Nat.lt_succ_self _, hn⟩, ?_⟩
      have e5 := e3.trans e4
      refine ⟨.ref a, rfl, ni t, rfl, a, f, t, rfl, ex_l e5 ha, wf, FI.lt, fun pd H5 npd e6 hd5 => ?_⟩
      have hmn : ((cand f t).map (ent f t)).map Prod.snd = iv ((cand f t).map (mean f t)) := by
        rw [List.map_map, iv, List.map_map]
        rfl
      have hcl : 0 < ((cand f t).map (mean f t)).length := by
        rw [List.length_map]
        exact List.length_pos_of_mem (rest_cand wf FI.lt hne)
      refine ⟨.ref pd, rfl, .inr (.inr (.inl ⟨rfl, .inl ⟨_, hd5⟩⟩)), pd, _, rfl, rfl, hd5, fun pv npv => ⟨pv, pd, _, (cand f t).map (mean f t), rfl, upd_same, by rw [upd_ne (ne_of_none hd5 npv)]; exact hd5, hmn, hcl, fun m hm1 hm2 => ?_⟩⟩
      have em : m = leastM f t := (leastM_is wf FI.lt hne hm1 hm2).symm
      subst em
      have e7 : Ex H5 (upd H5 pv (valsO pv pd)) := Ex.new npv
      generalize upd H5 pv (valsO pv pd) = H6 at e7
      refine q_asg (v := ni (poor f t).1) (ev_call (ea_cons (ev_var rfl) (ea_cons (ev_var rfl) ea_nil)) (sv_all_with_mean (cs := cand f t) (g := mean f t) (e7 _ _ hd5))) (fun H7 e8 => ?_)
      have e9 := ((e5.trans e6).trans e7).trans e8
      have hp7 : H7 p = some (.lst (iv (partsOf f l))) := e8 _ _ (e7 _ _ (e6 _ _ (e4 _ _ hp3)))
      have pl : (poor f t).1 < 2 ^ f.many := poor_lt t _
      refine q_forNLn (xs := nv (Dr01.things f)) (el_call (ea_cons (ev_var rfl) ea_nil) (sl_things_up_to (n := f.many) (by omega)))
        (fun pt i σ' H' => Ex H H' ∧ (∃ u, σ' = [some (.ref a), some (ni f.many), some (.ref p), some (ni t), some (.ref pd), some (.int (leastM f t)), some (ni (poor f t).1), u]) ∧ H' pt = some (.lst (nv (Dr01.things f))) ∧ pt ≠ p ∧
          ∃ q : List Int, H' p = some (.lst (iv q)) ∧ q.length = f.many ∧ ∀ j, j < f.many → q[j]? = if j < i ∧ Dr01.has (poor f t).1 (j + 1) = true then some (leastM f t) else (partsOf f l)[j]?)
        (fun pt H8 npt e10 h8 => ⟨e9.trans e10, ⟨x7, rfl⟩, h8, (fun z => by rw [z, hp7] at npt; cases npt), partsOf f l, e10 _ _ hp7, partsOf_len f l, fun j hj => by rw [if_neg (by omega)]⟩)
        (fun pt i σ' H' _ pv => sq_of pv.2.2.1) (fun pt i y σ' H' hi pv => ?_) (fun pt σ' H' pv => ?_)
      · obtain ⟨e10, ⟨u, rfl⟩, hpt, npp, q', hq', hql, hq⟩ := pv
        obtain ⟨th, hth, rfl⟩ := nv_get hi
        have hi' : i < f.many := by have := (List.getElem?_eq_some_iff.mp hth).1; rw [things_len] at this; exact this
        have : th = i + 1 := by rw [things_get hi'] at hth; exact (Option.some.inj hth).symm
        subst this
        refine s_when (et_B (ev_call (ea_cons (ev_var rfl) (ea_cons (ev_var (v := ni (i + 1)) rfl) ea_nil)) (sv_has (wf.lt pl) (by omega) (by omega)))) (fun hw H8 e11 => ?_) (fun hw H8 e11 => ?_)
        · refine s_setL (j := i) (e11 _ _ hq') (ev_var (v := .int (leastM f t)) rfl) (ev_var rfl) (ev_is (ev_op (ev_var (v := ni (i + 1)) rfl) ev_c rv_I0) (by show V.int (((i + 1 : Nat) : Int) - 1) = V.int (i : Int); congr 1; omega)) (by rw [iv, List.length_map]; omega) (fun H9 e12 => ?_)
          refine ⟨Ex.mut ((e10.trans e11).trans e12) np, ⟨_, rfl⟩, by rw [upd_ne npp]; exact e12 _ _ (e11 _ _ hpt), npp, q'.set i (leastM f t), by rw [upd_same, iv, iv, List.map_set], by rw [List.length_set, hql], fun j hj => ?_⟩
          rw [List.getElem?_set]
          by_cases ej : i = j
          · subst ej
            rw [if_pos rfl, if_pos (by omega), if_pos ⟨by omega, hw⟩]
          · rw [if_neg ej, hq j hj]
            by_cases c1 : j < i ∧ Dr01.has (poor f t).1 (j + 1) = true
            · rw [if_pos c1, if_pos ⟨by omega, c1.2⟩]
            · rw [if_neg c1, if_neg (fun z => c1 ⟨by omega, z.2⟩)]
        · refine ⟨e10.trans e11, ⟨_, rfl⟩, e11 _ _ hpt, npp, q', e11 _ _ hq', hql, fun j hj => ?_⟩
          rw [hq j hj]
          by_cases c1 : j < i ∧ Dr01.has (poor f t).1 (j + 1) = true
          · rw [if_pos c1, if_pos ⟨by omega, c1.2⟩]
          · rw [if_neg c1, if_neg (fun z => by
              by_cases ej : j = i
              · subst ej
                rw [hw] at z
                exact Bool.false_ne_true z.2
              · exact c1 ⟨by omega, z.2⟩)]
      · obtain ⟨e10, ⟨u, rfl⟩, hpt, npp, q', hq', hql, hq⟩ := pv
        have eq' : q' = partsOf f (l ++ [poor f t]) := by
          refine List.ext_getElem? fun j => ?_
          by_cases hj : j < f.many
          · rw [hq j hj, hnew j hj, nv, List.length_map, things_len]
            by_cases c1 : Dr01.has (poor f t).1 (j + 1) = true
            · rw [if_pos ⟨hj, c1⟩, if_pos c1]
              rfl
            · rw [if_neg (fun z => c1 z.2), if_neg c1]
          · rw [List.getElem?_eq_none (by omega), List.getElem?_eq_none (by rw [partsOf_len]; omega)]
        refine s_asg (ev_orN (a := t) (b := (poor f t).1) (ev_var rfl) (ev_var rfl)) (fun H8 e11 => ⟨e10.trans e11, t ||| (poor f t).1, l ++ [poor f t], _, _, _, _, FI', rfl, ?_⟩)
        rw [e11 _ _ hq', eq']
    · have hte : t = full f := Decidable.of_not_not (of_decide_eq_false hb)
      subst hte
      rw [FI.done] at hp3
      exact s_ret (ev_var rfl) (fun H5 e5 => q p H5 np ((e3.trans e4).trans e5) (e5 _ _ (e4 _ _ hp3)))
theorem sl_fairest_parts {a : Addr} {f : Dr01.Fun} {H : Hp} (ha : SqL K H a (iv f.vals)) (wf : Wf f) : SpL (sp_fairest_parts K) [.ref a, ni f.many] H (iv (fairP f)) := fun H1 e Q q E => ⟨a, f, rfl, ex_l e ha, wf, q⟩
end
end Sh
namespace Sh
open PySem PySem.Spec PyProof.Rows L2 Evl LamX NdefX
/-! ### a desk in the heap -/
abbrev flds (f : Dr01.Fun) (fa pa : Addr) : List (Str × V) := [("n", ni f.many), ("function", .ref fa), ("parts", .ref pa)]
structure DeskAt (C : Addr) (H : Hp) (x dx fa pa : Addr) (f : Dr01.Fun) (p : List Int) : Prop where
  obj : H x = some (.ins C dx (flds f fa pa))
  fn : H fa = some (.lst (iv f.vals))
  pt : H pa = some (.lst (iv p))
  ne : fa ≠ pa
  wf : Wf f
  v0 : Dr01.val f 0 = 0
  len : p.length = f.many
theorem notbl_lst {l : List V} : ∀ ps, HO.lst l ≠ .tbl ps := fun ps z => by cases z
theorem notbl_ins {C dx : Addr} {fs : List (Str × V)} : ∀ ps, HO.ins C dx fs ≠ .tbl ps := fun ps z => by cases z
theorem DeskAt.ext {C : Addr} {H H' : Hp} {x dx fa pa : Addr} {f : Dr01.Fun} {p : List Int} (d : DeskAt C H x dx fa pa f p) (e : ExtN H H') : DeskAt C H' x dx fa pa f p :=
  ⟨e _ _ d.obj notbl_ins, e _ _ d.fn notbl_lst, e _ _ d.pt notbl_lst, d.ne, d.wf, d.v0, d.len⟩
theorem DeskAt.ex {C : Addr} {H H' : Hp} {x dx fa pa : Addr} {f : Dr01.Fun} {p : List Int} (d : DeskAt C H x dx fa pa f p) (e : Ex H H') : DeskAt C H' x dx fa pa f p := d.ext (ExtN.of e)
theorem DeskAt.xf {C : Addr} {H : Hp} {x dx fa pa : Addr} {f : Dr01.Fun} {p : List Int} (d : DeskAt C H x dx fa pa f p) : fa ≠ x := fun z => by
  have := d.fn
  rw [z, d.obj] at this
  cases this
theorem DeskAt.xp {C : Addr} {H : Hp} {x dx fa pa : Addr} {f : Dr01.Fun} {p : List Int} (d : DeskAt C H x dx fa pa f p) : pa ≠ x := fun z => by
  have := d.pt
  rw [z, d.obj] at this
  cases this
/-- all but the desk, its parts and the tables stay -/
def Keep (x pa : Addr) (H H2 : Hp) : Prop := ∀ b o, H b = some o → (∀ ps, o ≠ .tbl ps) → b ≠ x → b ≠ pa → H2 b = some o
theorem Keep.of {x pa : Addr} {H H2 : Hp} (e : ExtN H H2) : Keep x pa H H2 := fun b o h n _ _ => e b o h n
theorem Keep.trans {x pa : Addr} {H H1 H2 : Hp} (a : Keep x pa H H1) (b : Keep x pa H1 H2) : Keep x pa H H2 := fun c o h n h1 h2 => b c o (a c o h n h1 h2) n h1 h2
theorem Keep.mutx {x pa : Addr} {H H1 : Hp} {o : HO} (a : Keep x pa H H1) : Keep x pa H (upd H1 x o) := fun c u h n h1 h2 => by
  rw [upd_ne h1]
  exact a c u h n h1 h2
theorem Keep.mutp {x pa : Addr} {H H1 : Hp} {o : HO} (a : Keep x pa H H1) : Keep x pa H (upd H1 pa o) := fun c u h n h1 h2 => by
  rw [upd_ne h2]
  exact a c u h n h1 h2
theorem NewN.back {H H1 : Hp} {p : Addr} (e : ExtN H H1) (h : NewN H1 p) : NewN H p := fun b o hb ho => h b o (e b o hb ho) ho
theorem NewN.none {H : Hp} {p : Addr} (h : H p = none) : NewN H p := NewN.of (ExtN.refl H) h
/-- behind a call -/
def Post (C : Addr) (Ts : List (Addr × Str)) (H : Hp) (x dx fa pa : Addr) (f' : Dr01.Fun) (p' ans : List Int) (r : Addr) (H2 : Hp) : Prop :=
  ∃ fa' pa', DeskAt C H2 x dx fa' pa' f' p' ∧ (fa' = fa ∨ NewN H fa') ∧ (pa' = pa ∨ NewN H pa') ∧ NewN H r ∧ H2 r = some (.lst (iv ans)) ∧ Keep x pa H H2 ∧ Tabs Ts H2
theorem Post.same {C : Addr} {Ts : List (Addr × Str)} {H H2 : Hp} {x dx fa pa r : Addr} {f : Dr01.Fun} {p ans : List Int} (d : DeskAt C H x dx fa pa f p) (t : Tabs Ts H) (e : Ex H H2) (hr : H r = none) (h : H2 r = some (.lst (iv ans))) : Post C Ts H x dx fa pa f p ans r H2 :=
  ⟨fa, pa, d.ex e, .inl rfl, .inl rfl, NewN.none hr, h, Keep.of (ExtN.of e), t.ext e⟩
/-- what a method promises for a call of the document -/
def MSp (C : Addr) (Ts : List (Addr × Str)) (G : Hp → List V → Dr02.Call → Prop) : Sp := fun vs H Q _ => ∃ (x dx fa pa : Addr) (f : Dr01.Fun) (p : List Int) (args : List V) (c : Dr02.Call), vs = .ref x :: args ∧ DeskAt C H x dx fa pa f p ∧ Tabs Ts H ∧ G H args c ∧
  ∀ r H2 f' p' ans, Dr02.step ⟨f, rp p⟩ c = (⟨f', rp p'⟩, ans) → Post C Ts H x dx fa pa f' p' ans r H2 → Q (.ref r) H2
section
variable {K : PySem.W.Frag} {σ : L2.St} {H H' : Hp} {ta tb te tl tv : TE} {t : TT} {x y z v : V} {D : Ends} {tz : TS}
theorem ev_fld {a C dx : Addr} {fs : List (Str × V)} {n : Str} (h : Ev ta σ H (.ref a)) (ho : H a = some (.ins C dx fs)) (hc : Cls K C) (hn : NoAttr K C n) (hl : fs.lookup n = some v) : Ev (tFld K ta n) σ H v := fun H1 e Q q =>
  h H1 e _ fun H2 e2 => ⟨a, C, dx, fs, v, rfl, e2 _ _ (e _ _ ho), hc, hn, hl, q H2 e2⟩
theorem ev_meth {a C dx : Addr} {fs : List (Str × V)} {m : Str} {sp : Sp} {dvs vs : List V} {E : XK} {t : TA} (h : Ev ta σ H (.ref a)) (ho : H a = some (.ins C dx fs)) (hl : fs.lookup m = none) (ht : EvA t σ H vs) (hs : SpV sp (.ref a :: (vs ++ dvs)) H z) : Ev (tMeth C m sp dvs E ta t) σ H z := fun H1 e Q q =>
  h H1 e _ fun H2 e2 => ⟨a, dx, fs, rfl, e2 _ _ (e _ _ ho), hl, ht H2 (e.trans e2) _ fun H3 e3 => hs H3 ((e.trans e2).trans e3) Q (fun H4 e4 => q H4 ((e2.trans e3).trans e4)) E⟩
end
section
variable {P : Program} {w : World} {K : PySem.W.Frag} {mg : Str → Option Value} {base : Heap} {A : Adr}
theorem Txt.ev_n (T : Txt K mg A) {σ : L2.St} {H : Hp} {ta : TE} {x dx fa pa : Addr} {f : Dr01.Fun} {p : List Int} (h : Ev ta σ H (.ref x)) (d : DeskAt A.Desk H x dx fa pa f p) : Ev (tFld K ta "n") σ H (ni f.many) := ev_fld h d.obj T.cl_Desk T.na_Desk_n rfl
theorem Txt.ev_f (T : Txt K mg A) {σ : L2.St} {H : Hp} {ta : TE} {x dx fa pa : Addr} {f : Dr01.Fun} {p : List Int} (h : Ev ta σ H (.ref x)) (d : DeskAt A.Desk H x dx fa pa f p) : Ev (tFld K ta "function") σ H (.ref fa) := ev_fld h d.obj T.cl_Desk T.na_Desk_function rfl
theorem Txt.ev_p (T : Txt K mg A) {σ : L2.St} {H : Hp} {ta : TE} {x dx fa pa : Addr} {f : Dr01.Fun} {p : List Int} (h : Ev ta σ H (.ref x)) (d : DeskAt A.Desk H x dx fa pa f p) : Ev (tFld K ta "parts") σ H (.ref pa) := ev_fld h d.obj T.cl_Desk T.na_Desk_parts rfl
/-! takes_row -/
def sp_takes_row (K : PySem.W.Frag) (C : Addr) : Sp := fun vs H Q _ => ∃ (x dx fa pa ra : Addr) (f : Dr01.Fun) (p : List Int) (l : List Nat), vs = [.ref x, .ref ra] ∧ DeskAt C H x dx fa pa f p ∧ SqL K H ra (nv l) ∧ l.length ≤ 40000 ∧ RetV (.bl (decide (l.length = f.many) && l.all fun z => decide (z ≤ 20000))) H Q
theorem ok_takes_row (T : Txt K mg A) (k : Nat) : OkM P w K mg base A.Desk "takes_row" ["self", "row"] (k + 2) (sp_takes_row K A.Desk) := by
  have o_is_within := ok_is_within (P := P) (w := w) (base := base) T k
  refine okm_of T.h_Desk_takes_row sc_Desk_takes_row (fun vs H Q E h => ?_) (fun f cdv A outer s H vs Q E hr h => ?_)
  · obtain ⟨x, dx, fa, pa, ra, f, p, l, rfl, _⟩ := h
    rfl
  · obtain ⟨x, dx, fa, pa, ra, f, p, l, rfl, d, hr', hl, q⟩ := h
    refine ⟨_, pss_one (ps_ret (pe_and (pe_cmpR op_eq (pe_callB call_len_seq (by rfl) T.b_len PySem.boot_len (pa_cons (pv 1) pa_nil)) (pe_fld (pv 0) rfl) (nomark _)) (pe_one (pe_ok o_is_within hr (by rfl) (pa_cons (pv 1) (pa_cons (pe_gi rfl T.c_MOST_HANDED) pa_nil)))))), ?_⟩
    refine s_ret (ev_andV (ev_is (ev_op (ev_lenL (ev_var rfl) hr' rfl) (T.ev_n (ev_var rfl) d) (rv_eq rfl)) ?_) (fun _ => ev_call (ea_cons (ev_var rfl) (ea_cons (ev_c (v := ni 20000)) ea_nil)) (sv_is_within hr' hl))) q
    rw [nv, List.length_map]
    unfold ni
    congr 1
    rw [Bool.eq_iff_iff, decide_eq_true_eq, decide_eq_true_eq]
    constructor
    · intro z
      have := V.int.inj z
      omega
    · intro z
      rw [z]
theorem sv_takes_row {C x dx fa pa ra : Addr} {f : Dr01.Fun} {p : List Int} {l : List Nat} {H : Hp} (d : DeskAt C H x dx fa pa f p) (hr : SqL K H ra (nv l)) (hl : l.length ≤ 40000) : SpV (sp_takes_row K C) [.ref x, .ref ra] H (.bl (decide (l.length = f.many) && l.all fun z => decide (z ≤ 20000))) :=
  fun H1 e Q q E => ⟨x, dx, fa, pa, ra, f, p, l, rfl, d.ex e, ex_l e hr, hl, q⟩
/-! is_thing, takes_pair -/
def sp_is_thing (C : Addr) : Sp := fun vs H Q _ => ∃ (x dx fa pa : Addr) (f : Dr01.Fun) (p : List Int) (i : Nat), vs = [.ref x, ni i] ∧ DeskAt C H x dx fa pa f p ∧ RetV (.bl (Dr02.isThing f i)) H Q
theorem ok_is_thing (T : Txt K mg A) (k : Nat) : OkM P w K mg base A.Desk "is_thing" ["self", "number"] (k + 1) (sp_is_thing A.Desk) := by
  refine okm_of T.h_Desk_is_thing sc_Desk_is_thing (fun vs H Q E h => ?_) (fun f cdv A outer s H vs Q E hr h => ?_)
  · obtain ⟨x, dx, fa, pa, f, p, i, rfl, _⟩ := h
    rfl
  · obtain ⟨x, dx, fa, pa, f, p, i, rfl, d, q⟩ := h
    refine ⟨_, pss_one (ps_ret (pe_and (pe_cmpR op_ge (pv 1) pe_int (nomark _)) (pe_one (pe_cmpR op_le (pv 1) (pe_fld (pv 0) rfl) (nomark _))))), ?_⟩
    refine s_ret (ev_is (ev_andV (ev_op (ev_var rfl) ev_c rv_I0) (fun _ => ev_op (ev_var rfl) (T.ev_n (ev_var rfl) d) rv_I0)) ?_) q
    unfold Dr02.isThing
    congr 1
    rw [Bool.eq_iff_iff]
    simp
    omega
theorem sv_is_thing {C x dx fa pa : Addr} {f : Dr01.Fun} {p : List Int} {i : Nat} {H : Hp} (d : DeskAt C H x dx fa pa f p) : SpV (sp_is_thing C) [.ref x, ni i] H (.bl (Dr02.isThing f i)) := fun H1 e Q q E => ⟨x, dx, fa, pa, f, p, i, rfl, d.ex e, q⟩
def sp_takes_pair (C : Addr) : Sp := fun vs H Q _ => ∃ (x dx fa pa : Addr) (f : Dr01.Fun) (p : List Int) (i j : Nat), vs = [.ref x, ni i, ni j] ∧ DeskAt C H x dx fa pa f p ∧ RetV (.bl (Dr02.isThing f i && (Dr02.isThing f j && decide (i ≠ j)))) H Q
theorem ok_takes_pair (T : Txt K mg A) (k : Nat) : OkM P w K mg base A.Desk "takes_pair" ["self", "i", "j"] (k + 2) (sp_takes_pair A.Desk) := by
  have o_is_thing := ok_is_thing (P := P) (w := w) (base := base) T k
  refine okm_of T.h_Desk_takes_pair sc_Desk_takes_pair (fun vs H Q E h => ?_) (fun f cdv A outer s H vs Q E hr h => ?_)
  · obtain ⟨x, dx, fa, pa, f, p, i, j, rfl, _⟩ := h
    rfl
  · obtain ⟨x, dx, fa, pa, f, p, i, j, rfl, d, q⟩ := h
    refine ⟨_, pss_one (ps_ret (pe_and (pe_okm (pv 0) T.cl_Desk o_is_thing hr (pa_cons (pv 1) pa_nil)) (pe_and (pe_okm (pv 0) T.cl_Desk o_is_thing hr (pa_cons (pv 2) pa_nil)) (pe_one (pe_cmpR op_ne (pv 1) (pv 2) (nomark _)))))), ?_⟩
    refine s_ret (ev_andV (ev_meth (ev_var rfl) d.obj rfl (ea_cons (ev_var rfl) ea_nil) (sv_is_thing d)) (fun _ => ev_andV (ev_meth (ev_var rfl) d.obj rfl (ea_cons (ev_var rfl) ea_nil) (sv_is_thing d)) (fun _ => ev_is (ev_op (ev_var rfl) (ev_var rfl) (rv_ne rfl)) ?_))) q
    unfold ni
    congr 1
    rw [Bool.eq_iff_iff]
    simp <;> omega
theorem sv_takes_pair {C x dx fa pa : Addr} {f : Dr01.Fun} {p : List Int} {i j : Nat} {H : Hp} (d : DeskAt C H x dx fa pa f p) : SpV (sp_takes_pair C) [.ref x, ni i, ni j] H (.bl (Dr02.isThing f i && (Dr02.isThing f j && decide (i ≠ j)))) := fun H1 e Q q E => ⟨x, dx, fa, pa, f, p, i, j, rfl, d.ex e, q⟩
end
end Sh
namespace Sh
open PySem PySem.Spec PyProof.Rows L2 Evl LamX NdefX
theorem nv_iv (l : List Nat) : nv l = iv (Dr02.ints l) := by
  unfold Dr02.ints
  rw [nv, iv, List.map_map]
  rfl
theorem not_t {b : Bool} (h : (!b) = true) : b = false := by cases b with | false => rfl | true => cases h
theorem not_f {b : Bool} (h : (!b) = false) : b = true := by cases b with | true => rfl | false => cases h
/-- one row and no numbers -/
def GRow (K : PySem.W.Frag) (mk : List Nat → Dr02.Call) : Hp → List V → Dr02.Call → Prop := fun H args c => ∃ (ra : Addr) (l : List Nat), args = [.ref ra] ∧ SqL K H ra (nv l) ∧ l.length ≤ 50 ∧ c = mk l
section
variable {P : Program} {w : World} {K : PySem.W.Frag} {mg : Str → Option Value} {base : Heap} {A : Adr} {Ts : List (Addr × Str)}
/-! base -/
theorem ok_base (T : Txt K mg A) (k : Nat) : OkM P w K mg base A.Desk "base" ["self"] (k + 3) (MSp A.Desk Ts fun _ args c => args = [] ∧ c = .base) := by
  have o_as_fractions := ok_as_fractions (P := P) (w := w) (base := base) T k
  refine okm_of T.h_Desk_base sc_Desk_base (fun vs H Q E h => ?_) (fun f cdv Ar outer s H vs Q E hr h => ?_)
  · obtain ⟨x, dx, fa, pa, f, p, args, c, rfl, d, t, ⟨rfl, rfl⟩, q⟩ := h
    rfl
  · obtain ⟨x, dx, fa, pa, f, p, args, c, rfl, d, t, ⟨rfl, rfl⟩, q⟩ := h
    refine ⟨_, pss_one (ps_ret (pe_ok o_as_fractions hr (by rfl) (pa_cons (pe_fld (pv 0) rfl) pa_nil))), ?_⟩
    have hm := d.wf.hi
    refine s_retL (el_call (ea_cons (T.ev_p (ev_var rfl) d) ea_nil) (sl_as_fractions (sq_of d.pt) (by rw [d.len]; omega))) (fun r H2 hr2 e2 h2 => q r H2 f p (p.flatMap fr2) ?_ (Post.same d t e2 hr2 h2))
    show ((⟨f, rp p⟩ : Dr02.St), (rp p).flatMap Dr02.fraction) = _
    rw [told_frac]
    rfl
/-! tight -/
theorem ok_tight (T : Txt K mg A) (k : Nat) : OkM P w K mg base A.Desk "tight" ["self"] (k + 6) (MSp A.Desk Ts fun _ args c => args = [] ∧ c = .tight) := by
  have o_tight_sets := ok_tight_sets (P := P) (w := w) (base := base) T k
  refine okm_of T.h_Desk_tight sc_Desk_tight (fun vs H Q E h => ?_) (fun f cdv Ar outer s H vs Q E hr h => ?_)
  · obtain ⟨x, dx, fa, pa, f, p, args, c, rfl, d, t, ⟨rfl, rfl⟩, q⟩ := h
    rfl
  · obtain ⟨x, dx, fa, pa, f, p, args, c, rfl, d, t, ⟨rfl, rfl⟩, q⟩ := h
    refine ⟨_, pss_cons (ps_set (i := 1) sc_Desk_tight.nd rfl (.inl rfl) (pe_ok o_tight_sets hr (by rfl) (pa_cons (pe_fld (pv 0) rfl) (pa_cons (pe_fld (pv 0) rfl) pa_nil))))
      (pss_one (ps_ret (pe_op op_cat (pe_lst (pa_cons (pe_callB call_len_seq (by rfl) T.b_len PySem.boot_len (pa_cons (pv 1) pa_nil)) pa_nil)) (pv 1)))), ?_⟩
    have hp := pow_le d.wf.hi
    refine q_asgL (el_call (ea_cons (T.ev_f (ev_var rfl) d) (ea_cons (T.ev_p (ev_var rfl) d) ea_nil)) (sl_tight_sets (sq_of d.fn) (sq_of d.pt) d.wf d.len)) (fun pf H1 npf e1 h1 => ?_)
    have htl : (tights f p).length ≤ 32 := by
      unfold tights
      exact Nat.le_trans (List.length_filter_le _ _) (by rw [List.length_range]; exact hp)
    refine s_retL (el_catNL (xs := [ni (tights f p).length]) (el_lst (ea_cons (ev_is (ev_lenL (ev_var rfl) (sq_of h1) rfl) (by rw [nv, List.length_map])) ea_nil) (by show 1 ≤ 100000; decide)) (ev_var rfl) h1 (by rw [nv, List.length_map]; show 1 + _ ≤ 40000; omega)) (fun r H2 hr2 e2 h2 => ?_)
    refine q r H2 f p (Dr02.told (tights f p)) ?_ (Post.same d t (e1.trans e2) (fresh_back e1 hr2) ?_)
    · show ((⟨f, rp p⟩ : Dr02.St), Dr02.told (Dr02.tight f (rp p))) = _
      rw [tight_eq d.len]
    · rw [h2, Dr02.told, ← nv_iv]
      rfl
/-! around -/
theorem ok_around (T : Txt K mg A) (k : Nat) : OkM P w K mg base A.Desk "around" ["self", "i"] (k + 7) (MSp A.Desk Ts fun _ args c => ∃ i : Nat, args = [ni i] ∧ c = .around i) := by
  have o_common_to_tight_sets := ok_common_to_tight_sets (P := P) (w := w) (base := base) T k
  have o_is_thing := ok_is_thing (P := P) (w := w) (base := base) T (k + 5)
  refine okm_of T.h_Desk_around sc_Desk_around (fun vs H Q E h => ?_) (fun f cdv Ar outer s H vs Q E hr h => ?_)
  · obtain ⟨x, dx, fa, pa, f, p, args, c, rfl, d, t, ⟨i, rfl, rfl⟩, q⟩ := h
    rfl
  · obtain ⟨x, dx, fa, pa, f, p, args, c, rfl, d, t, ⟨i, rfl, rfl⟩, q⟩ := h
    refine ⟨_, pss_cons (ps_if (pt_not (pt_val (pe_okm (pv 0) T.cl_Desk o_is_thing hr (pa_cons (pv 1) pa_nil)))) (pss_one (ps_ret (pe_lst (pa_cons (pe_gi rfl T.c_BAD_NUMBERS) pa_nil)))) pss_nil)
      (pss_one (ps_ret (pe_lst (pa_cons (pe_ok o_common_to_tight_sets hr (by rfl) (pa_cons (pe_fld (pv 0) rfl) (pa_cons (pe_fld (pv 0) rfl) (pa_cons (pv 1) pa_nil)))) pa_nil)))), ?_⟩
    have hstep : Dr02.step ⟨f, rp p⟩ (.around i) = (⟨f, rp p⟩, if Dr02.isThing f i = false then [-1] else Dr02.ints [Dr02.around f (rp p) i]) := rfl
    refine q_when (et_not (et_B (ev_meth (ev_var rfl) d.obj rfl (ea_cons (ev_var rfl) ea_nil) (sv_is_thing d)))) (fun hb H1 e1 => ?_) (fun hb H1 e1 => ?_)
    · have hb' : Dr02.isThing f i = false := by simpa using hb
      rw [if_pos hb'] at hstep
      exact s_retL (el_lst (ea_cons ev_c ea_nil) (by show 1 ≤ 100000; decide)) (fun r H2 hr2 e2 h2 => q r H2 f p [-1] hstep (Post.same d t (e1.trans e2) (fresh_back e1 hr2) h2))
    · have hb' : Dr02.isThing f i = true := by simpa using hb
      rw [if_neg (by rw [hb']; decide), around_eq d.len] at hstep
      have hi : 1 ≤ i ∧ i ≤ f.many := by
        unfold Dr02.isThing at hb'
        rw [Bool.and_eq_true, decide_eq_true_eq, decide_eq_true_eq] at hb'
        exact hb'
      have d1 := d.ex e1
      exact s_retL (el_lst (ea_cons (ev_call (ea_cons (T.ev_f (ev_var rfl) d1) (ea_cons (T.ev_p (ev_var rfl) d1) (ea_cons (ev_var rfl) ea_nil))) (sv_common_to_tight_sets (sq_of d1.fn) (sq_of d1.pt) d.wf d.len hi.1 hi.2)) ea_nil) (by show 1 ≤ 100000; decide)) (fun r H2 hr2 e2 h2 => q r H2 f p _ hstep (Post.same d t (e1.trans e2) (fresh_back e1 hr2) h2))
/-! room -/
theorem pair_of {f : Dr01.Fun} {i j : Nat} (h : (Dr02.isThing f i && (Dr02.isThing f j && decide (i ≠ j))) = true) : 1 ≤ i ∧ i ≤ f.many ∧ 1 ≤ j ∧ j ≤ f.many ∧ i ≠ j := by
  unfold Dr02.isThing at h
  simp only [Bool.and_eq_true, decide_eq_true_eq] at h
  exact ⟨h.1.1, h.1.2, h.2.1.1, h.2.1.2, h.2.2⟩
theorem nopair_of {f : Dr01.Fun} {i j : Nat} (h : (Dr02.isThing f i && (Dr02.isThing f j && decide (i ≠ j))) = false) : Dr02.isThing f i = false ∨ Dr02.isThing f j = false ∨ i = j := by
  cases h1 : Dr02.isThing f i with
  | false => exact .inl rfl
  | true =>
    cases h2 : Dr02.isThing f j with
    | false => exact .inr (.inl rfl)
    | true =>
      rw [h1, h2] at h
      exact .inr (.inr (Decidable.of_not_not (of_decide_eq_false (by simpa using h))))
theorem yespair {f : Dr01.Fun} {i j : Nat} (h : (Dr02.isThing f i && (Dr02.isThing f j && decide (i ≠ j))) = true) : ¬ (Dr02.isThing f i = false ∨ Dr02.isThing f j = false ∨ i = j) := by
  rw [Bool.and_eq_true, Bool.and_eq_true, decide_eq_true_eq] at h
  rintro (z | z | z)
  · rw [h.1] at z
    cases z
  · rw [h.2.1] at z
    cases z
  · exact h.2.2 z
theorem ok_room (T : Txt K mg A) (k : Nat) : OkM P w K mg base A.Desk "room" ["self", "i", "j"] (k + 6) (MSp A.Desk Ts fun _ args c => ∃ i j : Nat, args = [ni i, ni j] ∧ c = .room i j) := by
  have o_room_between := ok_room_between (P := P) (w := w) (base := base) T k
  have o_as_fraction := ok_as_fraction (P := P) (w := w) (base := base) T (k + 4)
  have o_takes_pair := ok_takes_pair (P := P) (w := w) (base := base) T (k + 3)
  refine okm_of T.h_Desk_room sc_Desk_room (fun vs H Q E h => ?_) (fun f cdv Ar outer s H vs Q E hr h => ?_)
  · obtain ⟨x, dx, fa, pa, f, p, args, c, rfl, d, t, ⟨i, j, rfl, rfl⟩, q⟩ := h
    rfl
  · obtain ⟨x, dx, fa, pa, f, p, args, c, rfl, d, t, ⟨i, j, rfl, rfl⟩, q⟩ := h
    refine ⟨_, pss_cons (ps_if (pt_not (pt_val (pe_okm (pv 0) T.cl_Desk o_takes_pair hr (pa_cons (pv 1) (pa_cons (pv 2) pa_nil))))) (pss_one (ps_ret (pe_lst (pa_cons (pe_gi rfl T.c_BAD_NUMBERS) pa_nil)))) pss_nil)
      (pss_one (ps_ret (pe_ok o_as_fraction hr (by rfl) (pa_cons (pe_ok o_room_between hr (by rfl) (pa_cons (pe_fld (pv 0) rfl) (pa_cons (pe_fld (pv 0) rfl) (pa_cons (pv 1) (pa_cons (pv 2) pa_nil))))) pa_nil)))), ?_⟩
    have hstep : Dr02.step ⟨f, rp p⟩ (.room i j) = (⟨f, rp p⟩, if Dr02.isThing f i = false ∨ Dr02.isThing f j = false ∨ i = j then [-1] else Dr02.fraction (Dr02.room f (rp p) i j)) := rfl
    refine q_when (et_not (et_B (ev_meth (ev_var rfl) d.obj rfl (ea_cons (ev_var rfl) (ea_cons (ev_var rfl) ea_nil)) (sv_takes_pair d)))) (fun hb H1 e1 => ?_) (fun hb H1 e1 => ?_)
    · rw [if_pos (nopair_of (not_t hb))] at hstep
      exact s_retL (el_lst (ea_cons ev_c ea_nil) (by show 1 ≤ 100000; decide)) (fun r H2 hr2 e2 h2 => q r H2 f p [-1] hstep (Post.same d t (e1.trans e2) (fresh_back e1 hr2) h2))
    · have hb' : (Dr02.isThing f i && (Dr02.isThing f j && decide (i ≠ j))) = true := not_f hb
      obtain ⟨a1, a2, a3, a4, a5⟩ := pair_of hb'
      obtain ⟨m1, m2⟩ := roomI_mem d.wf p a1 a2 a3 a4 a5
      rw [if_neg (yespair hb'), room_eq d.wf d.len a1 a2 a3 a4 a5 m1 m2, frac_q60] at hstep
      have d1 := d.ex e1
      exact s_retL (el_call (ea_cons (ev_call (ea_cons (T.ev_f (ev_var rfl) d1) (ea_cons (T.ev_p (ev_var rfl) d1) (ea_cons (ev_var rfl) (ea_cons (ev_var rfl) ea_nil)))) (sv_room_between (sq_of d1.fn) (sq_of d1.pt) d.wf d.len a1 a2 a3 a4 a5)) ea_nil) sl_as_fraction) (fun r H2 hr2 e2 h2 => q r H2 f p _ hstep (Post.same d t (e1.trans e2) (fresh_back e1 hr2) h2))
/-! is_base -/
theorem whole_bound {n : Nat} (h : n ≤ 20000) : -20000 ≤ Dr01.whole n ∧ Dr01.whole n ≤ 20000 := by
  unfold Dr01.whole
  split <;> omega
theorem wholes_no {f : Dr01.Fun} {l : List Nat} (h : (decide (l.length = f.many) && l.all fun z => decide (z ≤ 20000)) = false) : Dr02.wholes f l = none := by
  unfold Dr02.wholes
  rw [if_neg]
  rintro ⟨a, b⟩
  rw [a, b] at h
  simp at h
theorem wholes_yes {f : Dr01.Fun} {l : List Nat} (h : (decide (l.length = f.many) && l.all fun z => decide (z ≤ 20000)) = true) : l.length = f.many ∧ (∀ z ∈ l, z ≤ 20000) ∧ Dr02.wholes f l = some (l.map Dr01.whole) := by
  rw [Bool.and_eq_true, decide_eq_true_eq] at h
  refine ⟨h.1, fun z hz => of_decide_eq_true (List.all_eq_true.mp h.2 z hz), ?_⟩
  unfold Dr02.wholes
  rw [if_pos h]
theorem ok_is_base (T : Txt K mg A) (k : Nat) : OkM P w K mg base A.Desk "is_base" ["self", "row"] (k + 5) (MSp A.Desk Ts (GRow K .is)) := by
  have o_lowest_with_too_much := ok_lowest (P := P) (w := w) (base := base) T k
  have o_wholes := ok_wholes (P := P) (w := w) (base := base) T (k + 2)
  have o_takes_row := ok_takes_row (P := P) (w := w) (base := base) T (k + 2)
  refine okm_of T.h_Desk_is_base sc_Desk_is_base (fun vs H Q E h => ?_) (fun f cdv Ar outer s H vs Q E hr h => ?_)
  · obtain ⟨x, dx, fa, pa, f, p, args, c, rfl, d, t, ⟨ra, l, rfl, _⟩, q⟩ := h
    rfl
  · obtain ⟨x, dx, fa, pa, f, p, args, c, rfl, d, t, ⟨ra, l, rfl, hra, hll, rfl⟩, q⟩ := h
    refine ⟨_, pss_cons (ps_if (pt_not (pt_val (pe_okm (pv 0) T.cl_Desk o_takes_row hr (pa_cons (pv 1) pa_nil)))) (pss_one (ps_ret (pe_lst (pa_cons (pe_gi rfl T.c_BAD_NUMBERS) pa_nil)))) pss_nil)
      (pss_cons (ps_set (i := 2) sc_Desk_is_base.nd rfl (.inl rfl) (pe_ok o_wholes hr (by rfl) (pa_cons (pv 1) pa_nil)))
      (pss_cons (ps_set (i := 3) sc_Desk_is_base.nd rfl (.inl rfl) (pe_ok o_lowest_with_too_much hr (by rfl) (pa_cons (pe_fld (pv 0) rfl) (pa_cons (pv 2) pa_nil))))
      (pss_cons (ps_if (pt_cmpR op_ne (pv 3) pe_int (nomark _)) (pss_one (ps_ret (pe_lst (pa_cons pe_int (pa_cons pe_int (pa_cons (pv 3) pa_nil)))))) pss_nil)
      (pss_cons (ps_if (pt_cmpR op_lt (pe_callB (cr_sum rfl) (by rfl) T.b_sum (by decide +kernel) (pa_cons (pv 2) pa_nil)) (pe_ix ix_list (pe_fld (pv 0) rfl) (pe_un un_neg pe_int) (fun _ _ => rfl)) (nomark _)) (pss_one (ps_ret (pe_lst (pa_cons pe_int (pa_cons pe_int pa_nil))))) pss_nil)
      (pss_one (ps_ret (pe_lst (pa_cons pe_int pa_nil)))))))), ?_⟩
    have hstep : Dr02.step ⟨f, rp p⟩ (.is l) = (⟨f, rp p⟩, match Dr02.wholes f l with | none => [-1] | some v => match Dr02.over f (Dr02.toRat v) with | some s => [0, 1, (s : Int)] | none => if Dr02.isBase f (Dr02.toRat v) = true then [1] else [0, 0]) := rfl
    refine q_when (et_not (et_B (ev_meth (ev_var rfl) d.obj rfl (ea_cons (ev_var rfl) ea_nil) (sv_takes_row d hra (by omega))))) (fun hb H1 e1 => ?_) (fun hb H1 e1 => ?_)
    · rw [wholes_no (not_t hb)] at hstep
      exact s_retL (el_lst (ea_cons ev_c ea_nil) (by show 1 ≤ 100000; decide)) (fun r H2 hr2 e2 h2 => q r H2 f p [-1] hstep (Post.same d t (e1.trans e2) (fresh_back e1 hr2) h2))
    · obtain ⟨w1, w2, w3⟩ := wholes_yes (f := f) (l := l) (not_f hb)
      have hvl : (l.map Dr01.whole).length = f.many := by rw [List.length_map, w1]
      rw [w3] at hstep
      refine q_asgL (el_call (ea_cons (ev_var rfl) ea_nil) (sl_wholes (ex_l e1 hra) (by omega))) (fun pw H2 npw e2 h2 => ?_)
      have e12 := e1.trans e2
      have d2 := d.ex e12
      refine ⟨.ref x, rfl, x, A.Desk, dx, _, _, rfl, d2.obj, T.cl_Desk, T.na_Desk_function, rfl, .ref pw, rfl, fa, pw, f, l.map Dr01.whole, rfl, sq_of d2.fn, sq_of h2, d.wf, d.v0, hvl, fun c H4 hc e4 => ?_⟩
      have e14 := e12.trans e4
      have d4 := d.ex e14
      have h4 : H4 pw = some (.lst (iv (l.map Dr01.whole))) := e4 _ _ h2
      have hans : Dr02.step ⟨f, rp p⟩ (.is l) = (⟨f, rp p⟩, isAns f (l.map Dr01.whole) c) := by
        rw [hstep]
        exact congrArg _ (is_eq d.wf hvl hc)
      unfold isAns at hans
      refine q_when (et_is (ev_neI (i := (c : Int)) (ev_var rfl) ev_c) (b := decide (c ≠ 0)) (by rw [Bool.eq_iff_iff, decide_eq_true_eq, decide_eq_true_eq]; omega)) (fun hc0 H5 e5 => ?_) (fun hc0 H5 e5 => ?_)
      · rw [if_pos (of_decide_eq_true hc0)] at hans
        exact s_retL (el_lst (ea_cons ev_c (ea_cons ev_c (ea_cons (ev_var (v := ni c) rfl) ea_nil))) (by show 3 ≤ 100000; decide)) (fun r H6 hr6 e6 h6 => q r H6 f p _ hans (Post.same d t ((e14.trans e5).trans e6) (fresh_back (e14.trans e5) hr6) h6))
      · rw [if_neg (of_decide_eq_false hc0)] at hans
        have d5 := d4.ex e5
        have hlast : (iv f.vals)[(iv f.vals).length - 1]? = some (.int (Dr01.val f (full f))) := by
          rw [iv, List.length_map, d.wf.len, List.getElem?_map]
          have : f.vals[2 ^ f.many - 1]? = some (Dr01.val f (full f)) := d.wf.at (s := 2 ^ f.many - 1) (Nat.sub_lt (Nat.pos_of_ne_zero (by simp)) (by decide))
          rw [this]
          rfl
        refine q_when (et_is (et_test (ev_op (ev_sum (ev_var rfl) (sq_of (e5 _ _ h4))) (ev_op (T.ev_f (ev_var rfl) d5) (ev_un ev_c ru_neg) (rv_ixL (sq_of d5.fn) (at_last hlast))) rv_I0)) (b := decide ((l.map Dr01.whole).sum < Dr01.val f (full f))) rfl) (fun hs H6 e6 => ?_) (fun hs H6 e6 => ?_)
        · rw [if_pos (of_decide_eq_true hs)] at hans
          exact s_retL (el_lst (ea_cons ev_c (ea_cons ev_c ea_nil)) (by show 2 ≤ 100000; decide)) (fun r H7 hr7 e7 h7 => q r H7 f p _ hans (Post.same d t (((e14.trans e5).trans e6).trans e7) (fresh_back ((e14.trans e5).trans e6) hr7) h7))
        · rw [if_neg (of_decide_eq_false hs)] at hans
          exact s_retL (el_lst (ea_cons ev_c ea_nil) (by show 1 ≤ 100000; decide)) (fun r H7 hr7 e7 h7 => q r H7 f p _ hans (Post.same d t (((e14.trans e5).trans e6).trans e7) (fresh_back ((e14.trans e5).trans e6) hr7) h7))
/-! corners -/
theorem place_len (x : List Int) : ∀ l : List (List Int), (Dr02.place x l).length ≤ l.length + 1
  | [] => Nat.le_refl _
  | y :: l => by
    unfold Dr02.place
    split
    · exact Nat.le_succ _
    · split
      · exact Nat.le_refl _
      · have := place_len x l
        rw [List.length_cons, List.length_cons]
        omega
theorem fold_place_len (g : List Nat → List Int) : ∀ (os : List (List Nat)) (acc : List (List Int)), (os.foldl (fun r l => Dr02.place (g l) r) acc).length ≤ acc.length + os.length
  | [], acc => Nat.le_refl _
  | l :: os, acc => by
    have h1 := fold_place_len g os (Dr02.place (g l) acc)
    have h2 := place_len (g l) acc
    rw [List.foldl_cons, List.length_cons]
    omega
theorem orders_count : ∀ {n : Nat}, n < 6 → (Dr02.orders n ((List.range n).map fun i => i + 1)).length ≤ 120 := by decide +kernel
theorem corners_len {f : Dr01.Fun} (w : Wf f) : (Dr02.corners f).length ≤ 120 ∧ ∀ l ∈ Dr02.corners f, l.length = f.many := by
  have hh := w.hi
  refine ⟨?_, fun l hl => ?_⟩
  · have h1 := fold_place_len (Dr02.vertex f) (Dr02.orders f.many (Dr01.things f)) []
    have h2 := orders_count (n := f.many) (by omega)
    unfold Dr02.corners
    refine Nat.le_trans h1 ?_
    rw [List.length_nil, Nat.zero_add]
    exact h2
  · obtain ⟨_, h2⟩ := fold_place (n := f.many) (Dr02.vertex f) (vertex_len f) (Dr02.orders f.many (Dr01.things f)) [] (fun y hy => by simp at hy) (List.Pairwise.nil)
    rcases (h2 l).mp hl with z | ⟨m, _, rfl⟩
    · simp at z
    · exact vertex_len f m
theorem ok_corners (T : Txt K mg A) (k : Nat) : OkM P w K mg base A.Desk "corners" ["self"] (k + 5) (MSp A.Desk Ts fun _ args c => args = [] ∧ c = .corners) := by
  have o_different_corners := ok_different_corners (P := P) (w := w) (base := base) T k
  refine okm_of T.h_Desk_corners sc_Desk_corners (fun vs H Q E h => ?_) (fun f cdv Ar outer s H vs Q E hr h => ?_)
  · obtain ⟨x, dx, fa, pa, f, p, args, c, rfl, d, t, ⟨rfl, rfl⟩, q⟩ := h
    rfl
  · obtain ⟨x, dx, fa, pa, f, p, args, c, rfl, d, t, ⟨rfl, rfl⟩, q⟩ := h
    refine ⟨_, pss_cons (ps_set (i := 1) sc_Desk_corners.nd rfl (.inl rfl) (pe_ok o_different_corners hr (by rfl) (pa_cons (pe_fld (pv 0) rfl) (pa_cons (pe_fld (pv 0) rfl) pa_nil))))
      (pss_cons (ps_set (i := 2) sc_Desk_corners.nd rfl (.inl rfl) (pe_lst (pa_cons (pe_callB call_len_seq (by rfl) T.b_len PySem.boot_len (pa_cons (pv 1) pa_nil)) pa_nil)))
      (pss_cons (ps_for PassesOwn.never rfl (pi_list (pv 1)) (pg_name (i := 3) sc_Desk_corners.nd rfl (.inl rfl)) (pss_one (ps_expr (pe_bm PySem.F.plainAttrs_list PySem.F.slot_list_extend PySem.F.type_list_extend mt_extendT (pv 2) (pa_cons (pv 3) pa_nil)))))
      (pss_one (ps_ret (pv 2))))), ?_⟩
    have hm := d.wf.hi
    have hcl := corners_len d.wf
    refine ⟨.ref x, rfl, x, A.Desk, dx, _, _, rfl, d.obj, T.cl_Desk, T.na_Desk_function, rfl, .ref x, rfl, x, A.Desk, dx, _, _, rfl, d.obj, T.cl_Desk, T.na_Desk_n, rfl, fa, f, rfl, sq_of d.fn, d.wf, fun pc H3 npc e13 L3 => ?_⟩
    obtain ⟨qs, hqf, hql, hqs⟩ := L3
    refine q_asgL (xs := iv [((Dr02.corners f).length : Int)]) (el_lst (ea_cons (ev_is (ev_lenL (ev_var rfl) (sq_of hqf) rfl) (by rw [List.length_map, hql]; rfl)) ea_nil) (by show 1 ≤ 100000; decide)) (fun pr H4 npr e4 h4 => ?_)
    have nprH : H pr = none := fresh_back e13 npr
    have npcr : pc ≠ pr := fun z => by
      rw [← z, hqf] at npr
      cases npr
    refine q_forLn (ev_var rfl) (sq_of (e4 _ _ hqf)) (fun i σ' H' => Ex H H' ∧ (H' pc = some (.lst (qs.map V.ref)) ∧ ∀ (i : Nat) (l : List Int), (Dr02.corners f)[i]? = some l → ∃ q, qs[i]? = some q ∧ H' q = some (.tup (iv l))) ∧ (∃ u, σ' = [some (.ref x), some (.ref pc), some (.ref pr), u]) ∧ H' pr = some (.lst (iv (((Dr02.corners f).length : Int) :: ((Dr02.corners f).take i).flatten))))
      (fun H5 e5 => ⟨(e13.trans e4).trans e5, ⟨e5 _ _ (e4 _ _ hqf), fun i l hl => let ⟨q', a, b⟩ := hqs i l hl; ⟨q', a, e5 _ _ (e4 _ _ b)⟩⟩, ⟨none, rfl⟩, e5 _ _ h4⟩) (fun i σ' H' _ pv => sq_of pv.2.1.1) (fun i y σ' H' hi pv => ?_) (fun σ' H' pv => ?_)
    · obtain ⟨e5, ⟨hpc, hq5⟩, ⟨u, rfl⟩, h5⟩ := pv
      obtain ⟨qi, hqi, rfl⟩ : ∃ qi, qs[i]? = some qi ∧ y = V.ref qi := by
        rw [List.getElem?_map] at hi
        cases z : qs[i]? with
        | none => rw [z] at hi; cases hi
        | some q => rw [z] at hi; exact ⟨q, rfl, (Option.some.inj hi).symm⟩
      have hil : i < (Dr02.corners f).length := by have := (List.getElem?_eq_some_iff.mp hqi).1; omega
      obtain ⟨l, hl⟩ : ∃ l, (Dr02.corners f)[i]? = some l := ⟨_, List.getElem?_eq_getElem hil⟩
      obtain ⟨q', hq', hlq⟩ := hq5 i l hl
      have : q' = qi := Option.some.inj (hq'.symm.trans hqi)
      subst this
      have hll : l.length = f.many := hcl.2 l (List.mem_of_getElem? hl)
      have hfl : (((Dr02.corners f).take i).flatten).length ≤ 120 * 5 := by
        have : ∀ ls : List (List Int), (∀ l ∈ ls, l.length ≤ 5) → ls.flatten.length ≤ ls.length * 5 := fun ls => by
          induction ls with
          | nil => exact fun _ => Nat.le_refl _
          | cons a ls ih =>
            intro h
            have h1 := h a (List.mem_cons_self ..)
            have h2 := ih fun l hl => h l (List.mem_cons_of_mem _ hl)
            rw [List.flatten_cons, List.length_append, List.length_cons]
            omega
        have h1 := this ((Dr02.corners f).take i) fun l hl => by rw [hcl.2 l (List.mem_of_mem_take hl)]; exact hm
        rw [List.length_take] at h1
        have h2 := hcl.1
        omega
      refine s_extT h5 (ev_var rfl) (ev_var rfl) hlq (by rw [iv, iv, List.length_map, List.length_map, List.length_cons]; omega) (fun H6 e6 => ⟨Ex.mut (e5.trans e6) nprH, ⟨?_, fun j m hj => ?_⟩, ⟨_, rfl⟩, ?_⟩)
      · rw [upd_ne npcr]
        exact e6 _ _ hpc
      · obtain ⟨q2, b1, b2⟩ := hq5 j m hj
        refine ⟨q2, b1, ?_⟩
        rw [upd_ne (fun z => by rw [z, h5] at b2; cases b2)]
        exact e6 _ _ b2
      · rw [upd_same, List.take_add_one, hl, List.flatten_append, iv, iv, iv, ← List.map_append]
        simp
    · obtain ⟨e5, _, ⟨u, rfl⟩, h5⟩ := pv
      rw [List.length_map, hql, List.take_length] at h5
      exact s_ret (ev_var rfl) (fun H6 e6 => q pr H6 f p _ rfl (Post.same d t (e5.trans e6) nprH (e6 _ _ h5)))
end
end Sh
namespace Sh
open PySem PySem.Spec PyProof.Rows L2 Evl LamX NdefX
theorem new_of {x pa r : Addr} {H H2 : Hp} {u v : HO} (k : Keep x pa H H2) (hx : H2 x = some u) (hp : H2 pa = some v) (hr : H2 r = none) : NewN H r := fun b o hb ho e => by
  by_cases h1 : b = x
  · rw [← e, h1, hx] at hr
    cases hr
  · by_cases h2 : b = pa
    · rw [← e, h2, hp] at hr
      cases hr
    · rw [← e, k b o hb ho h1 h2] at hr
      cases hr
theorem noext_ins {C dx : Addr} {fs : List (Str × V)} : ∀ g, HO.ins C dx fs ≠ .ext g := fun g z => by cases z
theorem noext_lst {l : List V} : ∀ g, HO.lst l ≠ .ext g := fun g z => by cases z
section
variable {P : Program} {w : World} {K : PySem.W.Frag} {mg : Str → Option Value} {base : Heap} {A : Adr} {Ts : List (Addr × Str)}
/-! the desk with another base -/
theorem desk_base {C : Addr} {H H1 : Hp} {x dx fa pa q : Addr} {f : Dr01.Fun} {p p' : List Int} (d : DeskAt C H x dx fa pa f p) (e : ExtN H H1) (hq : NewN H q) (h1 : H1 q = some (.lst (iv p'))) (hl : p'.length = f.many) :
    DeskAt C (upd H1 x (.ins C dx (flds f fa q))) x dx fa q f p' := by
  have d1 := d.ext e
  have hqx : q ≠ x := (hq x _ d.obj notbl_ins).symm
  have hqf : q ≠ fa := (hq fa _ d.fn notbl_lst).symm
  exact ⟨upd_same, by rw [upd_ne d.xf]; exact d1.fn, by rw [upd_ne hqx]; exact h1, hqf.symm, d.wf, d.v0, hl⟩
theorem put_parts (f : Dr01.Fun) (fa pa q : Addr) : putF "parts" (.ref q) (flds f fa pa) = flds f fa q := rfl
/-! init -/
def sp_init (C : Addr) : Sp := fun vs H Q _ => ∃ x dx, vs = [.ref x] ∧ H x = some (.ins C dx []) ∧ ∀ H2 fa pa, DeskAt C H2 x dx fa pa (Dr01.zero 1) [0] → H fa = none → H pa = none → (∀ b o, H b = some o → b ≠ x → H2 b = some o) → Q .non H2
theorem ok_init (T : Txt K mg A) (k : Nat) : OkM P w K mg base A.Desk "__init__" ["self"] (k + 1) (sp_init A.Desk) := by
  refine okm_of T.h_Desk_init sc_Desk_init (fun vs H Q E h => ?_) (fun f cdv Ar outer s H vs Q E hr h => ?_)
  · obtain ⟨x, dx, rfl, _⟩ := h
    rfl
  · obtain ⟨x, dx, rfl, hx, q⟩ := h
    refine ⟨_, pss_cons (ps_fld (pv 0) pe_int rfl)
      (pss_cons (ps_fld (pv 0) (pe_lst (pa_cons pe_int (pa_cons pe_int pa_nil))) rfl)
      (pss_one (ps_fld (pv 0) (pe_lst (pa_cons pe_int pa_nil)) rfl))), ?_⟩
    refine q_fld (ev_c (v := .int 1)) (ev_var rfl) hx T.cl_Desk T.na_Desk_n (by show _ < 1000; first | decide | exact (by decide : (3 : Nat) < 1000) | exact (by decide : (2 : Nat) < 1000) | exact (by decide : (1 : Nat) < 1000)) (fun H1 e1 => ?_)
    have k1 : ∀ b o, H b = some o → b ≠ x → (upd H1 x (.ins A.Desk dx (putF "n" (.int 1) []))) b = some o := fun b o hb hn => by
      rw [upd_ne hn]
      exact e1 _ _ hb
    have n1 : ∀ b, (upd H1 x (.ins A.Desk dx (putF "n" (.int 1) []))) b = none → H b = none := fun b hb => by
      cases z : H b with
      | none => rfl
      | some o =>
        by_cases hn : b = x
        · rw [hn, upd_same] at hb
          cases hb
        · rw [k1 b o z hn] at hb
          cases hb
    have x1 : (upd H1 x (.ins A.Desk dx (putF "n" (.int 1) []))) x = some (.ins A.Desk dx (putF "n" (.int 1) [])) := upd_same
    generalize upd H1 x (.ins A.Desk dx (putF "n" (.int 1) [])) = H2 at k1 n1 x1
    refine q_fldL (ys := iv [0, 0]) (el_lst (ea_cons ev_c (ea_cons ev_c ea_nil)) (by show 2 ≤ 100000; decide)) (ev_var rfl) x1 T.cl_Desk T.na_Desk_function (by show _ < 1000; first | decide | exact (by decide : (3 : Nat) < 1000) | exact (by decide : (2 : Nat) < 1000) | exact (by decide : (1 : Nat) < 1000)) (fun fa H3 nfa e3 h3 => ?_)
    have nfx : fa ≠ x := fun z => by rw [z, x1] at nfa; cases nfa
    have k2 : ∀ b o, H b = some o → b ≠ x → (upd H3 x (.ins A.Desk dx (putF "function" (.ref fa) (putF "n" (.int 1) [])))) b = some o := fun b o hb hn => by
      rw [upd_ne hn]
      exact e3 _ _ (k1 b o hb hn)
    have hf4 : (upd H3 x (.ins A.Desk dx (putF "function" (.ref fa) (putF "n" (.int 1) [])))) fa = some (.lst (iv [0, 0])) := by
      rw [upd_ne nfx]
      exact h3
    have x2 : (upd H3 x (.ins A.Desk dx (putF "function" (.ref fa) (putF "n" (.int 1) [])))) x = some (.ins A.Desk dx (putF "function" (.ref fa) (putF "n" (.int 1) []))) := upd_same
    have n2 : ∀ b, (upd H3 x (.ins A.Desk dx (putF "function" (.ref fa) (putF "n" (.int 1) [])))) b = none → H b = none := fun b hb => by
      cases z : H b with
      | none => rfl
      | some o =>
        by_cases hn : b = x
        · rw [hn, upd_same] at hb
          cases hb
        · rw [k2 b o z hn] at hb
          cases hb
    generalize upd H3 x (.ins A.Desk dx (putF "function" (.ref fa) (putF "n" (.int 1) []))) = H4 at k2 hf4 x2 n2
    refine s_fldL (ys := iv [0]) (el_lst (ea_cons ev_c ea_nil) (by show 1 ≤ 100000; decide)) (ev_var rfl) x2 T.cl_Desk T.na_Desk_parts (by show _ < 1000; first | decide | exact (by decide : (3 : Nat) < 1000) | exact (by decide : (2 : Nat) < 1000) | exact (by decide : (1 : Nat) < 1000)) (fun pa H5 npa e5 h5 => ?_)
    have npx : pa ≠ x := fun z => by rw [z, x2] at npa; cases npa
    have npf : fa ≠ pa := fun z => by rw [← z, hf4] at npa; cases npa
    refine q _ fa pa ⟨upd_same, by rw [upd_ne nfx]; exact e5 _ _ hf4, by rw [upd_ne npx]; exact h5, npf, ⟨by decide, by decide, rfl⟩, rfl, rfl⟩ (n1 fa nfa) (n2 pa npa) (fun b o hb hn => ?_)
    rw [upd_ne hn]
    exact e5 _ _ (k2 b o hb hn)
/-! take_function -/
def PostT (C : Addr) (Ts : List (Addr × Str)) (H : Hp) (x dx fa pa ga : Addr) (f' : Dr01.Fun) (p' ans : List Int) (r : Addr) (H2 : Hp) : Prop :=
  ∃ fa' pa', DeskAt C H2 x dx fa' pa' f' p' ∧ (fa' = fa ∨ fa' = ga) ∧ (pa' = pa ∨ NewN H pa') ∧ NewN H r ∧ H2 r = some (.lst (iv ans)) ∧ Keep x pa H H2 ∧ Tabs Ts H2
def sp_take_function (C : Addr) (Ts : List (Addr × Str)) : Sp := fun vs H Q _ => ∃ (x dx fa pa ga : Addr) (f g : Dr01.Fun) (p : List Int), vs = [.ref x, ni g.many, .ref ga] ∧ DeskAt C H x dx fa pa f p ∧ H ga = some (.lst (iv g.vals)) ∧ Wf g ∧ ga ≠ pa ∧ Tabs Ts H ∧
  ∀ r H2 f' p' ans, Dr02.become ⟨f, rp p⟩ g = (⟨f', rp p'⟩, ans) → PostT C Ts H x dx fa pa ga f' p' ans r H2 → Q (.ref r) H2
theorem ok_take_function (T : Txt K mg A) (k : Nat) : OkM P w K mg base A.Desk "take_function" ["self", "n", "function"] (k + 5) (sp_take_function A.Desk Ts) := by
  have o_is_of_this_kind := ok_is_of_this_kind (P := P) (w := w) (base := base) T k
  have o_base_by_order := ok_base_by_order (P := P) (w := w) (base := base) T (k + 1)
  have o_things_up_to := ok_things_up_to (P := P) (w := w) (base := base) T (k + 3)
  have o_in_parts := ok_in_parts (P := P) (w := w) (base := base) T (k + 3)
  refine okm_of T.h_Desk_take_function sc_Desk_take_function (fun vs H Q E h => ?_) (fun f cdv Ar outer s H vs Q E hr h => ?_)
  · obtain ⟨x, dx, fa, pa, ga, f, g, p, rfl, _⟩ := h
    rfl
  · obtain ⟨x, dx, fa, pa, ga, f, g, p, rfl, d, hg, wg, gp, t, q⟩ := h
    refine ⟨_, pss_cons (ps_if (pt_not (pt_val (pe_ok o_is_of_this_kind hr (by rfl) (pa_cons (pv 2) (pa_cons (pv 1) pa_nil))))) (pss_one (ps_ret (pe_lst (pa_cons (pe_gi rfl T.c_BAD_FUNCTION) pa_nil)))) pss_nil)
      (pss_cons (ps_fld (pv 0) (pv 1) rfl)
      (pss_cons (ps_fld (pv 0) (pv 2) rfl)
      (pss_cons (ps_fld (pv 0) (pe_ok o_in_parts hr (by rfl) (pa_cons (pe_ok o_base_by_order hr (by rfl) (pa_cons (pv 2) (pa_cons (pe_ok o_things_up_to hr (by rfl) (pa_cons (pv 1) pa_nil)) pa_nil))) pa_nil)) rfl)
      (pss_one (ps_ret (pe_op op_cat (pe_lst (pa_cons (pv 1) pa_nil)) (pv 2))))))), ?_⟩
    have hm := wg.hi
    have hp := pow_le hm
    have hstep : Dr02.become ⟨f, rp p⟩ g = if Dr02.fits g = false then (⟨f, rp p⟩, [-6]) else (Dr02.found g, (g.many : Int) :: g.vals) := rfl
    have gx : ga ≠ x := fun z => by rw [z, d.obj] at hg; cases hg
    refine q_when (et_not (et_B (ev_call (ea_cons (ev_var rfl) (ea_cons (ev_var rfl) ea_nil)) (sv_is_of_this_kind (sq_of hg) wg)))) (fun hb H1 e1 => ?_) (fun hb H1 e1 => ?_)
    · rw [if_pos (not_t hb)] at hstep
      exact s_retL (el_lst (ea_cons ev_c ea_nil) (by show 1 ≤ 100000; decide)) (fun r H2 hr2 e2 h2 => q r H2 f p [-6] hstep ⟨fa, pa, d.ex (e1.trans e2), .inl rfl, .inl rfl, NewN.none (fresh_back e1 hr2), h2, Keep.of (ExtN.of (e1.trans e2)), t.ext (e1.trans e2)⟩)
    · have hfit := not_f hb
      rw [if_neg (by rw [hfit]; decide)] at hstep
      have d1 := d.ex e1
      refine q_fld (y := ni g.many) (ev_var rfl) (ev_var rfl) d1.obj T.cl_Desk T.na_Desk_n (by show _ < 1000; first | decide | exact (by decide : (3 : Nat) < 1000) | exact (by decide : (2 : Nat) < 1000) | exact (by decide : (1 : Nat) < 1000)) (fun H2 e2 => ?_)
      have kA : Keep x pa H (upd H2 x (.ins A.Desk dx (putF "n" (ni g.many) (flds f fa pa)))) := (Keep.of (ExtN.of (e1.trans e2))).mutx
      have tA : Tabs Ts (upd H2 x (.ins A.Desk dx (putF "n" (ni g.many) (flds f fa pa)))) := tabs_mut (t.ext (e1.trans e2)) ((d.ex (e1.trans e2)).obj) notbl_ins noext_ins
      have xA : (upd H2 x (.ins A.Desk dx (putF "n" (ni g.many) (flds f fa pa)))) x = some (.ins A.Desk dx (putF "n" (ni g.many) (flds f fa pa))) := upd_same
      have pA : (upd H2 x (.ins A.Desk dx (putF "n" (ni g.many) (flds f fa pa)))) pa = some (.lst (iv p)) := by rw [upd_ne d.xp]; exact e2 _ _ d1.pt
      generalize upd H2 x (.ins A.Desk dx (putF "n" (ni g.many) (flds f fa pa))) = HA at kA tA xA pA
      refine q_fld (y := .ref ga) (ev_var rfl) (ev_var rfl) xA T.cl_Desk T.na_Desk_function (by show _ < 1000; first | decide | exact (by decide : (3 : Nat) < 1000) | exact (by decide : (2 : Nat) < 1000) | exact (by decide : (1 : Nat) < 1000)) (fun H3 e3 => ?_)
      have kB : Keep x pa H (upd H3 x (.ins A.Desk dx (putF "function" (.ref ga) (putF "n" (ni g.many) (flds f fa pa))))) := (kA.trans (Keep.of (ExtN.of e3))).mutx
      have tB' : Tabs Ts (upd H3 x (.ins A.Desk dx (putF "function" (.ref ga) (putF "n" (ni g.many) (flds f fa pa))))) := tabs_mut (tA.ext e3) (e3 _ _ xA) notbl_ins noext_ins
      have xB : (upd H3 x (.ins A.Desk dx (putF "function" (.ref ga) (putF "n" (ni g.many) (flds f fa pa))))) x = some (.ins A.Desk dx (flds g ga pa)) := upd_same
      have pB : (upd H3 x (.ins A.Desk dx (putF "function" (.ref ga) (putF "n" (ni g.many) (flds f fa pa))))) pa = some (.lst (iv p)) := by rw [upd_ne d.xp]; exact e3 _ _ pA
      generalize upd H3 x (.ins A.Desk dx (putF "function" (.ref ga) (putF "n" (ni g.many) (flds f fa pa)))) = HB at kB tB' xB pB
      have gB : HB ga = some (.lst (iv g.vals)) := kB _ _ hg notbl_lst gx gp
      refine q_fldL (ys := iv ((Dr02.vertex g (Dr01.things g)).map fun z => 60 * z)) (el_call1L (el_call2R (x := .ref ga) (xs := nv (Dr01.things g)) (ys := iv (Dr02.vertex g (Dr01.things g))) (ev_var rfl) (el_call (ea_cons (ev_var rfl) ea_nil) (sl_things_up_to (n := g.many) (by omega))) (fun pl H4 h4 e4 => sl_base_by_order (sq_of (e4 _ _ gB)) (sq_of h4) wg (List.Perm.refl _)))
        (fun pv H4 h4 e4 => sl_in_parts (sq_of h4) (by rw [vertex_len]; omega))) (ev_var rfl) xB T.cl_Desk T.na_Desk_parts (by show _ < 1000; first | decide | exact (by decide : (3 : Nat) < 1000) | exact (by decide : (2 : Nat) < 1000) | exact (by decide : (1 : Nat) < 1000)) (fun pq H5 npq e5 h5 => ?_)
      have pqx : pq ≠ x := fun z => by rw [z, xB] at npq; cases npq
      have gpq : ga ≠ pq := fun z => by rw [← z, gB] at npq; cases npq
      have kC : Keep x pa H (upd H5 x (.ins A.Desk dx (flds g ga pq))) := (kB.trans (Keep.of (ExtN.of e5))).mutx
      have tC' : Tabs Ts (upd H5 x (.ins A.Desk dx (flds g ga pq))) := tabs_mut (tB'.ext e5) (e5 _ _ xB) notbl_ins noext_ins
      have dC : DeskAt A.Desk (upd H5 x (.ins A.Desk dx (flds g ga pq))) x dx ga pq g ((Dr02.vertex g (Dr01.things g)).map fun z => 60 * z) :=
        ⟨upd_same, by rw [upd_ne gx]; exact e5 _ _ gB, by rw [upd_ne pqx]; exact h5, gpq, wg, fits_zero hfit, by rw [List.length_map, vertex_len]⟩
      show tRet _ _ _ (upd H5 x (.ins A.Desk dx (flds g ga pq)))
      have nq : NewN H pq := new_of kB xB pB npq
      have pC : (upd H5 x (.ins A.Desk dx (flds g ga pq))) pa = some (.lst (iv p)) := by rw [upd_ne d.xp]; exact e5 _ _ pB
      generalize upd H5 x (.ins A.Desk dx (flds g ga pq)) = HC at kC tC' dC pC
      refine s_retL (el_catNL (xs := [ni g.many]) (el_lst (ea_cons (ev_var rfl) ea_nil) (by show 1 ≤ 100000; decide)) (ev_var rfl) dC.fn (by rw [iv, List.length_map, wg.len]; show 1 + _ ≤ 40000; omega)) (fun r H6 nr e6 h6 => ?_)
      refine q r H6 g ((Dr02.vertex g (Dr01.things g)).map fun z => 60 * z) ((g.many : Int) :: g.vals) ?_ ⟨ga, pq, dC.ex e6, .inr rfl, .inr nq, new_of kC dC.obj pC nr, h6, kC.trans (Keep.of (ExtN.of e6)), tC'.ext e6⟩
      rw [hstep, ← toRat_rp]
      rfl
end
end Sh
namespace Sh
open PySem PySem.Spec PyProof.Rows L2 Evl LamX NdefX
section
variable {K : PySem.W.Frag} {σ : L2.St} {H H' : Hp} {ta tb tc te tl tv : TE} {t : TT} {x y z v : V} {D : Ends} {tz : TS}
/-- return o.m(e, l), l a new list -/
theorem r_methVL {a C dx : Addr} {fs : List (Str × V)} {m : Str} {sp : Sp} {E : XK} {ys : List V} (h : Ev ta σ H (.ref a)) (ho : H a = some (.ins C dx fs)) (hl : fs.lookup m = none) (hb : Ev tb σ H y) (hc : EvL tc σ H ys) (k : ∀ p H1, H p = none → Ex H H1 → H1 p = some (.lst ys) → sp [.ref a, y, .ref p] H1 D.rt E) :
    tRet (tMeth C m sp [] E ta (tCons tb (tCons tc tNil))) D σ H :=
  h H (Ex.refl H) _ fun H1 e1 => ⟨a, dx, fs, rfl, e1 _ _ ho, hl, hb H1 e1 _ fun H2 e2 => hc H2 (e1.trans e2) _ fun p H3 np e3 h3 => k p H3 (fresh_back (e1.trans e2) np) ((e1.trans e2).trans e3) h3⟩
theorem ev_tupIx {p : Addr} {ys : List Int} {z : Int} {j : Nat} {r : V → List V → Hp → VK → Prop} (hr : r = fun x xs H Q => ∃ p, ∃ ys : List Int, ∃ z j, x = .ref p ∧ xs = [.int z] ∧ SqT K H p (iv ys) ∧ ys[j]? = some z ∧ (∀ m, m < j → ys[m]? ≠ some z) ∧ Q (.int (j : Nat)) H)
    (ha : Ev ta σ H (.ref p)) (hb : Ev tb σ H (.int z)) (ho : ∃ o, K.lookup p = some o ∧ o.cls = .type "tuple" ∧ o.dict = none) (hs : ∀ H, SqT K H p (iv ys)) (hj : ys[j]? = some z) (hno : ∀ m, m < j → ys[m]? ≠ some z) : Ev (tBM K "tuple" r ta (tCons tb tNil)) σ H (ni j) := by
  subst hr
  exact fun H1 e Q q => ha H1 e _ fun H2 e2 => ⟨.inr (.inl ⟨rfl, ho⟩), hb H2 (e.trans e2) _ fun H3 e3 => ⟨p, ys, z, j, rfl, rfl, hs H3, hj, hno, q H3 (e2.trans e3)⟩⟩
end
theorem inT_eq (m : Nat) : inV (ni m) (iv [2, 4, 8, 16, 32]) = (decide (m = 2) || (decide (m = 4) || (decide (m = 8) || (decide (m = 16) || decide (m = 32))))) := by
  show (((2 : Int) == (m : Int)) || (((4 : Int) == (m : Int)) || (((8 : Int) == (m : Int)) || (((16 : Int) == (m : Int)) || (((32 : Int) == (m : Int)) || false))))) = _
  rw [Bool.eq_iff_iff]
  simp only [Bool.or_eq_true, beq_iff_eq, decide_eq_true_eq, Bool.or_false]
  omega
section
variable {P : Program} {w : World} {K : PySem.W.Frag} {mg : Str → Option Value} {base : Heap} {A : Adr} {Ts : List (Addr × Str)}
/-- behind take_function, seen from before the new function was made -/
theorem PostT.post {C : Addr} {H H1 H2 : Hp} {x dx fa pa ga r : Addr} {f' : Dr01.Fun} {p' ans : List Int} (e : Ex H H1) (hg : H ga = none) (h : PostT C Ts H1 x dx fa pa ga f' p' ans r H2) : Post C Ts H x dx fa pa f' p' ans r H2 := by
  obtain ⟨fa', pa', d, h1, h2, h3, h4, h5, h6⟩ := h
  refine ⟨fa', pa', d, h1.imp id fun z => by rw [z]; exact NewN.none hg, h2.imp id fun z => NewN.back (ExtN.of e) z, NewN.back (ExtN.of e) h3, h4, fun b o hb ho n1 n2 => h5 b o (e _ _ hb) ho n1 n2, h6⟩
/-! tell -/
theorem ok_tell (T : Txt K mg A) (k : Nat) : OkM P w K mg base A.Desk "tell" ["self", "row"] (k + 6) (MSp A.Desk Ts (GRow K .tell)) := by
  have o_take_function := ok_take_function (P := P) (w := w) (base := base) (Ts := Ts) T k
  have o_wholes := ok_wholes (P := P) (w := w) (base := base) T (k + 3)
  have o_is_within := ok_is_within (P := P) (w := w) (base := base) T (k + 4)
  refine okm_of T.h_Desk_tell sc_Desk_tell (fun vs H Q E h => ?_) (fun f cdv Ar outer s H vs Q E hr h => ?_)
  · obtain ⟨x, dx, fa, pa, f, p, args, c, rfl, d, t, ⟨ra, l, rfl, _⟩, q⟩ := h
    rfl
  · obtain ⟨x, dx, fa, pa, f, p, args, c, rfl, d, t, ⟨ra, l, rfl, hra, hll, rfl⟩, q⟩ := h
    refine ⟨_, pss_cons (ps_if (PW.pt (pw_or (pt_cmpR op_notIn_seq (pe_callB call_len_seq (by rfl) T.b_len PySem.boot_len (pa_cons (pv 1) pa_nil)) (pe_gr rfl T.c_TABLE_LENGTHS) rfl) (pw_or1 (pt_not (pt_val (pe_ok o_is_within hr (by rfl) (pa_cons (pv 1) (pa_cons (pe_gi rfl T.c_MOST_HANDED) pa_nil)))))))) (pss_one (ps_ret (pe_lst (pa_cons (pe_gi rfl T.c_BAD_NUMBERS) pa_nil)))) pss_nil)
      (pss_one (ps_ret (pe_okm (pv 0) T.cl_Desk o_take_function hr (pa_cons (pe_op op_add (pe_bm PySem.F.plainAttrs_tuple PySem.F.slot_tuple_index PySem.F.type_tuple_index mt_tupIndexI (pe_gr rfl T.c_TABLE_LENGTHS) (pa_cons (pe_callB call_len_seq (by rfl) T.b_len PySem.boot_len (pa_cons (pv 1) pa_nil)) pa_nil)) pe_int) (pa_cons (pe_ok o_wholes hr (by rfl) (pa_cons (pv 1) pa_nil)) pa_nil))))), ?_⟩
    have hlen : (nv l).length = l.length := by rw [nv, List.length_map]
    have hstep : Dr02.step ⟨f, rp p⟩ (.tell l) = (match Dr01.log2 l.length with
      | none => (⟨f, rp p⟩, [-1])
      | some n => if n = 0 ∨ l.all (fun z => decide (z ≤ 20000)) = false then (⟨f, rp p⟩, [-1]) else Dr02.become ⟨f, rp p⟩ ⟨n, l.map Dr01.whole⟩) := rfl
    refine q_when (et_or (et_test (ev_op (ev_is (ev_lenL (ev_var rfl) hra rfl) (by rw [hlen])) ev_c (rv_niT (T.t_TABLE_LENGTHS _) rfl rfl))) (fun _ => et_not (et_B (ev_call (ea_cons (ev_var rfl) (ea_cons (ev_c (v := ni 20000)) ea_nil)) (sv_is_within hra (by omega)))))) (fun hb H1 e1 => ?_) (fun hb H1 e1 => ?_)
    · have hs : Dr02.step ⟨f, rp p⟩ (.tell l) = (⟨f, rp p⟩, [-1]) := by
        rw [hstep]
        rcases log2_case l.length with ⟨n, n1, n5, en, el⟩ | ⟨_, _, _, _, _, el⟩
        · rw [el]
          have hin : inV (ni l.length) (iv [2, 4, 8, 16, 32]) = true := by
            rw [inT_eq, en]
            have : n = 1 ∨ n = 2 ∨ n = 3 ∨ n = 4 ∨ n = 5 := by omega
            rcases this with rfl | rfl | rfl | rfl | rfl <;> rfl
          rw [hin] at hb
          have hb2 : (l.all fun z => decide (z ≤ 20000)) = false := by
            cases z : (l.all fun z => decide (z ≤ 20000)) with
            | false => rfl
            | true => rw [z] at hb; cases hb
          show (if n = 0 ∨ l.all (fun z => decide (z ≤ 20000)) = false then _ else _) = _
          rw [if_pos (.inr hb2)]
        · rcases el with el | el
          · rw [el]
          · rw [el]
            show (if (0 : Nat) = 0 ∨ _ then _ else _) = _
            rw [if_pos (.inl rfl)]
      exact s_retL (el_lst (ea_cons ev_c ea_nil) (by show 1 ≤ 100000; decide)) (fun r H2 hr2 e2 h2 => q r H2 f p [-1] hs (Post.same d t (e1.trans e2) (fresh_back e1 hr2) h2))
    · rw [Bool.or_eq_false_iff] at hb
      have hin : inV (ni l.length) (iv [2, 4, 8, 16, 32]) = true := not_f hb.1
      have hall : (l.all fun z => decide (z ≤ 20000)) = true := not_f hb.2
      rcases log2_case l.length with ⟨n, n1, n5, en, el⟩ | ⟨a1, a2, a3, a4, a5, _⟩
      · rw [el] at hstep
        have hstep2 : Dr02.step ⟨f, rp p⟩ (.tell l) = Dr02.become ⟨f, rp p⟩ ⟨n, l.map Dr01.whole⟩ := by
          rw [hstep]
          show (if n = 0 ∨ l.all (fun z => decide (z ≤ 20000)) = false then _ else _) = _
          rw [if_neg]
          rintro (z | z)
          · omega
          · rw [hall] at z
            cases z
        have d1 := d.ex e1
        have hix : ([2, 4, 8, 16, 32] : List Int)[n - 1]? = some (l.length : Int) ∧ ∀ m, m < n - 1 → ([2, 4, 8, 16, 32] : List Int)[m]? ≠ some (l.length : Int) := by
          rw [en]
          have : n = 1 ∨ n = 2 ∨ n = 3 ∨ n = 4 ∨ n = 5 := by omega
          rcases this with rfl | rfl | rfl | rfl | rfl <;> decide
        refine r_methVL (y := ni n) (ys := iv (l.map Dr01.whole)) (ev_var rfl) d1.obj rfl (ev_is (ev_op (ev_tupIx (j := n - 1) (z := (l.length : Int)) rfl ev_c (ev_is (ev_lenL (ev_var rfl) (ex_l e1 hra) rfl) (by rw [hlen]; rfl)) T.o_TABLE_LENGTHS T.t_TABLE_LENGTHS hix.1 hix.2) ev_c rv_I0) ?_)
          (el_call (ea_cons (ev_var rfl) ea_nil) (sl_wholes (ex_l e1 hra) (by omega))) (fun pg H2 npg e2 h2 => ?_)
        · show V.int (((n - 1 : Nat) : Int) + 1) = V.int (n : Int)
          congr 1
          omega
        · have d2 := d1.ex e2
          refine ⟨x, dx, fa, pa, pg, f, ⟨n, l.map Dr01.whole⟩, p, rfl, d2, h2, ⟨n1, n5, by rw [List.length_map, en]⟩, (fun z => by rw [z, d1.pt] at npg; cases npg), t.ext (e1.trans e2), fun r H3 f' p' ans hb hpost => q r H3 f' p' ans (hstep2.trans hb) (hpost.post (e1.trans e2) (fresh_back e1 npg))⟩
      · rw [inT_eq, decide_eq_false a1, decide_eq_false a2, decide_eq_false a3, decide_eq_false a4, decide_eq_false a5] at hin
        cases hin
/-! cover -/
theorem ok_cover (T : Txt K mg A) (k : Nat) : OkM P w K mg base A.Desk "cover" ["self", "n", "row"] (k + 6) (MSp A.Desk Ts fun H args c => ∃ (n : Nat) (ra : Addr) (l : List Nat), args = [ni n, .ref ra] ∧ SqL K H ra (nv l) ∧ l.length ≤ 50 ∧ c = .cover n l) := by
  have o_take_function := ok_take_function (P := P) (w := w) (base := base) (Ts := Ts) T k
  have o_weight_met := ok_weight_met (P := P) (w := w) (base := base) T (k + 4)
  have o_is_points := ok_is_points (P := P) (w := w) (base := base) T (k + 3)
  refine okm_of T.h_Desk_cover sc_Desk_cover (fun vs H Q E h => ?_) (fun f cdv Ar outer s H vs Q E hr h => ?_)
  · obtain ⟨x, dx, fa, pa, f, p, args, c, rfl, d, t, ⟨n, ra, l, rfl, _⟩, q⟩ := h
    rfl
  · obtain ⟨x, dx, fa, pa, f, p, args, c, rfl, d, t, ⟨n, ra, l, rfl, hra, hll, rfl⟩, q⟩ := h
    refine ⟨_, pss_cons (ps_if (PW.pt (pw_or (pt_cmpR op_lt (pv 1) pe_int (nomark _)) (pw_or (pt_cmpR op_gt (pv 1) (pe_gi rfl T.c_MOST_THINGS) (nomark _)) (pw_or1 (pt_not (pt_val (pe_ok o_is_points hr (by rfl) (pa_cons (pv 1) (pa_cons (pv 2) pa_nil))))))))) (pss_one (ps_ret (pe_lst (pa_cons (pe_gi rfl T.c_BAD_NUMBERS) pa_nil)))) pss_nil)
      (pss_one (ps_ret (pe_okm (pv 0) T.cl_Desk o_take_function hr (pa_cons (pv 1) (pa_cons (pe_lc (own := [("chosen", 3)]) (g := gName 3) (tt := tYes) rfl sc_Desk_cover.nd (pi_range1 (by rfl) T.b_range (pa_cons (pe_ix ix_tup (pe_gr rfl T.c_TABLE_LENGTHS) (pe_op op_sub (pv 1) pe_int) (fun _ _ => rfl)) pa_nil)) (blkOk_by (own := [("chosen", 3)]) (N := ["self", "n", "row", "chosen"]) (sc := defScope s_Desk_cover) (by decide +kernel)) (fun _ _ _ _ _ => (pg_name (i := 3) sc_Desk_cover.nd rfl (.inl rfl))) (fun _ _ _ _ _ => pts_nil) (fun _ _ _ _ _ => (pe_ok o_weight_met hr (by rfl) (pa_cons (pv 2) (pa_cons (pv 3) pa_nil))))) pa_nil))))), ?_⟩
    have hstep : Dr02.step ⟨f, rp p⟩ (.cover n l) = if n = 0 ∨ 5 < n then (⟨f, rp p⟩, [-1]) else (match Dr01.covered n l with
      | none => (⟨f, rp p⟩, [-1])
      | some c => if 20 < c.length then (⟨f, rp p⟩, [-1]) else Dr02.become ⟨f, rp p⟩ (Dr01.ofCover n c)) := rfl
    have htest : EvT (tOr (tTest (tOp (rI0 fun i j => .bl (decide (i < j))) (tVar 1) (tC (.int 1)))) (tOr (tTest (tOp (rI0 fun i j => .bl (decide (i > j))) (tVar 1) (tC (.int 5)))) (tNot (tB (tCall (sp_is_points K) [] E0 (tCons (tVar 1) (tCons (tVar 2) tNil))))))) (L2.start ["self", "n", "row", "chosen"] [.ref x, ni n, .ref ra]) H (decide (n < 1) || (decide (5 < n) || !pointsB n l)) := by
      refine et_or (et_is (et_test (ev_op (ev_var rfl) ev_c rv_I0)) ?_) (fun h1 => et_or (et_is (et_test (ev_op (ev_var rfl) ev_c rv_I0)) ?_) (fun h2 => et_not (et_B (ev_call (ea_cons (ev_var rfl) (ea_cons (ev_var rfl) ea_nil)) (sv_is_points hra (by have := of_decide_eq_false h1; omega) (by have := of_decide_eq_false h2; omega) (by omega))))))
      · rw [Bool.eq_iff_iff, decide_eq_true_eq, decide_eq_true_eq]
        omega
      · rw [Bool.eq_iff_iff, decide_eq_true_eq, decide_eq_true_eq]
        omega
    refine q_when htest (fun hb H1 e1 => ?_) (fun hb H1 e1 => ?_)
    · have hs : Dr02.step ⟨f, rp p⟩ (.cover n l) = (⟨f, rp p⟩, [-1]) := by
        rw [hstep]
        by_cases h1 : n = 0 ∨ 5 < n
        · rw [if_pos h1]
        · rw [if_neg h1]
          have hpb : pointsB n l = false := by
            cases z : pointsB n l with
            | false => rfl
            | true =>
              rw [z, decide_eq_false (by omega), decide_eq_false (by omega)] at hb
              cases hb
          rcases points_case n l with ⟨z, _⟩ | ⟨_, z⟩
          · rw [hpb] at z
            cases z
          · cases hcv : Dr01.covered n l with
            | none => rfl
            | some c =>
              show (if 20 < c.length then _ else _) = _
              rw [if_pos (z c hcv)]
      exact s_retL (el_lst (ea_cons ev_c ea_nil) (by show 1 ≤ 100000; decide)) (fun r H2 hr2 e2 h2 => q r H2 f p [-1] hs (Post.same d t (e1.trans e2) (fresh_back e1 hr2) h2))
    · rw [Bool.or_eq_false_iff, Bool.or_eq_false_iff] at hb
      have n1 : 1 ≤ n := by have := of_decide_eq_false hb.1; omega
      have n5 : n ≤ 5 := by have := of_decide_eq_false hb.2.1; omega
      have hpb : pointsB n l = true := not_f hb.2.2
      have hp := pow_le n5
      rcases points_case n l with ⟨_, z, zl⟩ | ⟨z, _⟩
      · have hstep2 : Dr02.step ⟨f, rp p⟩ (.cover n l) = Dr02.become ⟨f, rp p⟩ (Dr01.ofCover n (pointsOf l)) := by
          rw [hstep, if_neg (by omega), z]
          show (if 20 < (pointsOf l).length then _ else _) = _
          rw [if_neg (by omega)]
        have hev : l.length % 2 = 0 := by
          unfold pointsB at hpb
          simp only [Bool.and_eq_true, decide_eq_true_eq] at hpb
          exact hpb.1.1.1
        have d1 := d.ex e1
        have hvals : iv (Dr01.ofCover n (pointsOf l)).vals = (List.range (2 ^ n)).map fun c => V.int (wmet l c) := by
          rw [ofCover_vals, iv, List.map_map]
          rfl
        refine r_methVL (y := ni n) (ys := iv (Dr01.ofCover n (pointsOf l)).vals) (ev_var rfl) d1.obj rfl (ev_var rfl) (by
          rw [hvals]
          exact el_rngA (n := 2 ^ n) (fun c => V.int (wmet l c)) (ea_cons (ev_op ev_c (ev_op (ev_var rfl) ev_c rv_I0) (rv_ixT (T.t_TABLE_LENGTHS _) (at_of (j := n - 1) (by show (n : Int) - 1 = _; omega) (tl_get (by omega) n1)))) ea_nil) (by omega) (fun _ => rfl) (fun c hc => ev_call (ea_cons (ev_var rfl) (ea_cons (ev_var rfl) ea_nil)) (sv_weight_met (ex_l e1 hra) hev (by omega)))) (fun pg H2 npg e2 h2 => ?_)
        refine ⟨x, dx, fa, pa, pg, f, Dr01.ofCover n (pointsOf l), p, rfl, d1.ex e2, h2, ⟨n1, n5, by rw [ofCover_vals, List.length_map, List.length_range]; rfl⟩, (fun z => by rw [z, d1.pt] at npg; cases npg), t.ext (e1.trans e2), fun r H3 f' p' ans hb hpost => q r H3 f' p' ans (hstep2.trans hb) (hpost.post (e1.trans e2) (fresh_back e1 npg))⟩
      · rw [hpb] at z
        cases z
end
end Sh
namespace Sh
open PySem PySem.Spec PyProof.Rows L2 Evl LamX NdefX
theorem iv_getD {l : List Int} {k : Nat} (h : k < l.length) : (iv l)[k]? = some (.int (l.getD k 0)) := by
  rw [iv, List.getElem?_map, List.getD_eq_getElem?_getD, List.getElem?_eq_getElem h]
  rfl
theorem iv_set (l : List Int) (k : Nat) (z : Int) : (iv l).set k (.int z) = iv (l.set k z) := by
  rw [iv, iv, List.map_set]
theorem sorted_perm {f : Dr01.Fun} {l : List Nat} {ns' : List Int} (hp : ns'.Perm (Dr02.ints l)) (hs : ns'.Pairwise (· ≤ ·)) : ns' = Dr02.ints (Dr01.things f) ↔ l.Perm (Dr01.things f) := by
  have back : ∀ l : List Nat, (Dr02.ints l).map Int.toNat = l := fun l => by
    unfold Dr02.ints
    rw [List.map_map]
    exact (List.map_congr_left fun n _ => Int.toNat_natCast n).trans (List.map_id l)
  constructor
  · intro e
    rw [e] at hp
    have h2 := hp.map Int.toNat
    rw [back, back] at h2
    exact h2.symm
  · intro h
    have h2 : ns'.Perm (Dr02.ints (Dr01.things f)) := hp.trans (h.map fun (n : Nat) => (n : Int))
    have hnd : (Dr02.ints (Dr01.things f)).Nodup := List.Pairwise.map _ (fun x y (h : x ≠ y) => (by omega : (x : Int) ≠ (y : Int))) (things_nodup f)
    refine sorted_uniq (R := fun a b : Int => a < b) (fun a h => Int.lt_irrefl a h) (fun a b c h1 h2 => Int.lt_trans h1 h2) ?_ ?_ (fun y => h2.mem_iff)
    · refine List.Pairwise.imp_of_mem (fun {x y} _ _ h => ?_) (hs.and (h2.nodup_iff.mpr hnd))
      have h3 : x ≠ y := h.2
      have h4 : x ≤ y := h.1
      omega
    · unfold Dr02.ints Dr01.things
      rw [List.map_map]
      refine List.Pairwise.map _ (fun x y (h : x < y) => ?_) List.pairwise_lt_range
      show ((x + 1 : Nat) : Int) < ((y + 1 : Nat) : Int)
      omega
section
variable {P : Program} {w : World} {K : PySem.W.Frag} {mg : Str → Option Value} {base : Heap} {A : Adr} {Ts : List (Addr × Str)}
/-- behind a call that gives the desk another base -/
theorem post_base {C : Addr} {H H1 H2 : Hp} {x dx fa pa q r : Addr} {f : Dr01.Fun} {p p' ans : List Int} (d : DeskAt C H x dx fa pa f p) (e : ExtN H H1) (hq : NewN H q) (h1 : H1 q = some (.lst (iv p'))) (hl : p'.length = f.many) (t : Tabs Ts H1)
    (e2 : Ex (upd H1 x (.ins C dx (flds f fa q))) H2) (hr : (upd H1 x (.ins C dx (flds f fa q))) r = none) (h2 : H2 r = some (.lst (iv ans))) : Post C Ts H x dx fa pa f p' ans r H2 := by
  have d1 := desk_base d e hq h1 hl
  have k1 : Keep x pa H (upd H1 x (.ins C dx (flds f fa q))) := (Keep.of e).mutx
  have pC : (upd H1 x (.ins C dx (flds f fa q))) pa = some (.lst (iv p)) := by
    rw [upd_ne d.xp]
    exact (d.ext e).pt
  exact ⟨fa, q, d1.ex e2, .inl rfl, .inr hq, new_of k1 d1.obj pC hr, h2, k1.trans (Keep.of (ExtN.of e2)), (tabs_mut t (d.ext e).obj notbl_ins noext_ins).ext e2⟩
/-! order -/
theorem ok_order (T : Txt K mg A) (k : Nat) : OkM P w K mg base A.Desk "order" ["self", "things"] (k + 4) (MSp A.Desk Ts (GRow K .order)) := by
  have o_base_by_order := ok_base_by_order (P := P) (w := w) (base := base) T k
  have o_things_up_to := ok_things_up_to (P := P) (w := w) (base := base) T (k + 2)
  have o_in_parts := ok_in_parts (P := P) (w := w) (base := base) T (k + 2)
  refine okm_of T.h_Desk_order sc_Desk_order (fun vs H Q E h => ?_) (fun f cdv Ar outer s H vs Q E hr h => ?_)
  · obtain ⟨x, dx, fa, pa, f, p, args, c, rfl, d, t, ⟨ra, l, rfl, _⟩, q⟩ := h
    rfl
  · obtain ⟨x, dx, fa, pa, f, p, args, c, rfl, d, t, ⟨ra, l, rfl, hra, hll, rfl⟩, q⟩ := h
    refine ⟨_, pss_cons (ps_if (pt_cmpR (op_neD hr.units) (pe_callB cr_sorted (by rfl) T.b_sorted (by decide +kernel) (pa_cons (pv 1) pa_nil)) (pe_ok o_things_up_to hr (by rfl) (pa_cons (pe_fld (pv 0) rfl) pa_nil)) (nomark _)) (pss_one (ps_ret (pe_lst (pa_cons (pe_gi rfl T.c_BAD_NUMBERS) pa_nil)))) pss_nil)
      (pss_cons (ps_set (i := 2) sc_Desk_order.nd rfl (.inl rfl) (pe_ok o_base_by_order hr (by rfl) (pa_cons (pe_fld (pv 0) rfl) (pa_cons (pv 1) pa_nil))))
      (pss_cons (ps_fld (pv 0) (pe_ok o_in_parts hr (by rfl) (pa_cons (pv 2) pa_nil)) rfl)
      (pss_one (ps_ret (pe_op op_cat (pe_lst (pa_cons (pe_fld (pv 0) rfl) pa_nil)) (pv 2)))))), ?_⟩
    have hm := d.wf.hi
    have hstep : Dr02.step ⟨f, rp p⟩ (.order l) = if (Dr02.orders f.many (Dr01.things f)).contains l = false then (⟨f, rp p⟩, [-1]) else (⟨f, Dr02.toRat (Dr02.vertex f l)⟩, (f.many : Int) :: Dr02.vertex f l) := rfl
    refine q_when (b := !(Dr02.orders f.many (Dr01.things f)).contains l) (et_neSorted (ns := Dr02.ints l) (ms := Dr02.ints (Dr01.things f)) (ev_var rfl) (by rw [← nv_iv]; exact hra) (by unfold Dr02.ints; rw [List.length_map]; omega) (by
      rw [← nv_iv]
      exact el_call (ea_cons (T.ev_n (ev_var rfl) d) ea_nil) (sl_things_up_to (n := f.many) (by omega))) (fun ns' hp hs => ?_)) (fun hb H1 e1 => ?_) (fun hb H1 e1 => ?_)
    · have h1 := sorted_perm (f := f) hp hs
      have h2 := order_case f l
      rw [Bool.eq_iff_iff, decide_eq_true_eq, Bool.not_eq_true']
      cases z : (Dr02.orders f.many (Dr01.things f)).contains l with
      | true => exact ⟨fun n => (n (h1.mpr (h2.mp z))).elim, fun n => by cases n⟩
      | false => exact ⟨fun _ => rfl, fun _ n => by rw [h2.mpr (h1.mp n)] at z; cases z⟩
    · rw [if_pos (not_t hb)] at hstep
      exact s_retL (el_lst (ea_cons ev_c ea_nil) (by show 1 ≤ 100000; decide)) (fun r H2 hr2 e2 h2 => q r H2 f p [-1] hstep (Post.same d t (e1.trans e2) (fresh_back e1 hr2) h2))
    · have hc := not_f hb
      have hperm := (order_case f l).mp hc
      rw [if_neg (by rw [hc]; decide)] at hstep
      have d1 := d.ex e1
      refine q_asgL (el_call (ea_cons (T.ev_f (ev_var rfl) d1) (ea_cons (ev_var rfl) ea_nil)) (sl_base_by_order (sq_of d1.fn) (ex_l e1 hra) d.wf hperm)) (fun pv H2 npv e2 h2 => ?_)
      have d2 := d1.ex e2
      refine q_fldL (ys := iv ((Dr02.vertex f l).map fun z => 60 * z)) (el_call (ea_cons (ev_var rfl) ea_nil) (sl_in_parts (sq_of h2) (by rw [vertex_len]; omega))) (ev_var rfl) d2.obj T.cl_Desk T.na_Desk_parts (by show 3 < 1000; decide) (fun pq H3 npq e3 h3 => ?_)
      have e13 := (e1.trans e2).trans e3
      have nq : NewN H pq := NewN.none (fresh_back (e1.trans e2) npq)
      have dC := desk_base d (ExtN.of e13) nq h3 (by rw [List.length_map, vertex_len])
      have pvx : pv ≠ x := fun z => by rw [z, d1.obj] at npv; cases npv
      have hvC : (upd H3 x (.ins A.Desk dx (flds f fa pq))) pv = some (.lst (iv (Dr02.vertex f l))) := by
        rw [upd_ne pvx]
        exact e3 _ _ h2
      show tRet _ _ _ (upd H3 x (.ins A.Desk dx (flds f fa pq)))
      refine s_retL (el_catNL (xs := [ni f.many]) (el_lst (ea_cons (T.ev_n (ev_var rfl) dC) ea_nil) (by show 1 ≤ 100000; decide)) (ev_var rfl) hvC (by rw [iv, List.length_map, vertex_len]; show 1 + _ ≤ 40000; omega)) (fun r H6 nr e6 h6 => ?_)
      refine q r H6 f ((Dr02.vertex f l).map fun z => 60 * z) ((f.many : Int) :: Dr02.vertex f l) ?_ (post_base d (ExtN.of e13) nq h3 (by rw [List.length_map, vertex_len]) (t.ext e13) e6 nr h6)
      rw [hstep, ← toRat_rp]
/-! fairest -/
theorem ok_fairest (T : Txt K mg A) (k : Nat) : OkM P w K mg base A.Desk "fairest" ["self"] (k + 6) (MSp A.Desk Ts fun _ args c => args = [] ∧ c = .fairest) := by
  have o_fairest_parts := ok_fairest_parts (P := P) (w := w) (base := base) T k
  have o_as_fractions := ok_as_fractions (P := P) (w := w) (base := base) T (k + 3)
  refine okm_of T.h_Desk_fairest sc_Desk_fairest (fun vs H Q E h => ?_) (fun f cdv Ar outer s H vs Q E hr h => ?_)
  · obtain ⟨x, dx, fa, pa, f, p, args, c, rfl, d, t, ⟨rfl, rfl⟩, q⟩ := h
    rfl
  · obtain ⟨x, dx, fa, pa, f, p, args, c, rfl, d, t, ⟨rfl, rfl⟩, q⟩ := h
    refine ⟨_, pss_cons (ps_fld (pv 0) (pe_ok o_fairest_parts hr (by rfl) (pa_cons (pe_fld (pv 0) rfl) (pa_cons (pe_fld (pv 0) rfl) pa_nil))) rfl)
      (pss_one (ps_ret (pe_ok o_as_fractions hr (by rfl) (pa_cons (pe_fld (pv 0) rfl) pa_nil)))), ?_⟩
    have hm := d.wf.hi
    have hfl : (fairP f).length = f.many := partsOf_len f _
    refine q_fldL (ys := iv (fairP f)) (el_call (ea_cons (T.ev_f (ev_var rfl) d) (ea_cons (T.ev_n (ev_var rfl) d) ea_nil)) (sl_fairest_parts (sq_of d.fn) d.wf)) (ev_var rfl) d.obj T.cl_Desk T.na_Desk_parts (by show 3 < 1000; decide) (fun pq H3 npq e3 h3 => ?_)
    have nq : NewN H pq := NewN.none npq
    have dC := desk_base d (ExtN.of e3) nq h3 hfl
    show tRet _ _ _ (upd H3 x (.ins A.Desk dx (flds f fa pq)))
    refine s_retL (el_call (ea_cons (T.ev_p (ev_var rfl) dC) ea_nil) (sl_as_fractions (sq_of dC.pt) (by rw [hfl]; omega))) (fun r H6 nr e6 h6 => ?_)
    refine q r H6 f (fairP f) ((fairP f).flatMap fr2) ?_ (post_base d (ExtN.of e3) nq h3 hfl (t.ext e3) e6 nr h6)
    show ((⟨f, Dr02.fairest f⟩ : Dr02.St), (Dr02.fairest f).flatMap Dr02.fraction) = _
    rw [fairest_eq d.wf, told_frac]
    rfl
/-! move -/
theorem ok_move (T : Txt K mg A) (k : Nat) : OkM P w K mg base A.Desk "move" ["self", "i", "j"] (k + 6) (MSp A.Desk Ts fun _ args c => ∃ i j : Nat, args = [ni i, ni j] ∧ c = .move i j) := by
  have o_room_between := ok_room_between (P := P) (w := w) (base := base) T k
  have o_as_fraction := ok_as_fraction (P := P) (w := w) (base := base) T (k + 4)
  have o_takes_pair := ok_takes_pair (P := P) (w := w) (base := base) T (k + 3)
  refine okm_of T.h_Desk_move sc_Desk_move (fun vs H Q E h => ?_) (fun f cdv Ar outer s H vs Q E hr h => ?_)
  · obtain ⟨x, dx, fa, pa, f, p, args, c, rfl, d, t, ⟨i, j, rfl, rfl⟩, q⟩ := h
    rfl
  · obtain ⟨x, dx, fa, pa, f, p, args, c, rfl, d, t, ⟨i, j, rfl, rfl⟩, q⟩ := h
    refine ⟨_, pss_cons (ps_if (pt_not (pt_val (pe_okm (pv 0) T.cl_Desk o_takes_pair hr (pa_cons (pv 1) (pa_cons (pv 2) pa_nil))))) (pss_one (ps_ret (pe_lst (pa_cons (pe_gi rfl T.c_BAD_NUMBERS) pa_nil)))) pss_nil)
      (pss_cons (ps_set (i := 3) sc_Desk_move.nd rfl (.inl rfl) (pe_ok o_room_between hr (by rfl) (pa_cons (pe_fld (pv 0) rfl) (pa_cons (pe_fld (pv 0) rfl) (pa_cons (pv 1) (pa_cons (pv 2) pa_nil))))))
      (pss_cons (ps_augS (pe_fld (pv 0) rfl) (pe_op op_sub (pv 1) pe_int) get_list (pv 3) ip_add set_list)
      (pss_cons (ps_augS (pe_fld (pv 0) rfl) (pe_op op_sub (pv 2) pe_int) get_list (pv 3) ip_sub set_list)
      (pss_one (ps_ret (pe_ok o_as_fraction hr (by rfl) (pa_cons (pv 3) pa_nil))))))), ?_⟩
    have hstep : Dr02.step ⟨f, rp p⟩ (.move i j) = if Dr02.isThing f i = false ∨ Dr02.isThing f j = false ∨ i = j then (⟨f, rp p⟩, [-1]) else (⟨f, (Dr01.things f).map fun k => (rp p).getD (k - 1) 0 + (if k = i then Dr02.room f (rp p) i j else if k = j then -Dr02.room f (rp p) i j else 0)⟩, Dr02.fraction (Dr02.room f (rp p) i j)) := rfl
    refine q_when (et_not (et_B (ev_meth (ev_var rfl) d.obj rfl (ea_cons (ev_var rfl) (ea_cons (ev_var rfl) ea_nil)) (sv_takes_pair d)))) (fun hb H1 e1 => ?_) (fun hb H1 e1 => ?_)
    · rw [if_pos (nopair_of (not_t hb))] at hstep
      exact s_retL (el_lst (ea_cons ev_c ea_nil) (by show 1 ≤ 100000; decide)) (fun r H2 hr2 e2 h2 => q r H2 f p [-1] hstep (Post.same d t (e1.trans e2) (fresh_back e1 hr2) h2))
    · have hb' : (Dr02.isThing f i && (Dr02.isThing f j && decide (i ≠ j))) = true := not_f hb
      obtain ⟨a1, a2, a3, a4, a5⟩ := pair_of hb'
      obtain ⟨m1, m2⟩ := roomI_mem d.wf p a1 a2 a3 a4 a5
      rw [if_neg (yespair hb'), room_eq d.wf d.len a1 a2 a3 a4 a5 m1 m2, frac_q60, moved_eq d.len a1 a2 a3 a4 a5] at hstep
      have d1 := d.ex e1
      refine q_asg (v := .int (roomI f p i j)) (ev_call (ea_cons (T.ev_f (ev_var rfl) d1) (ea_cons (T.ev_p (ev_var rfl) d1) (ea_cons (ev_var rfl) (ea_cons (ev_var rfl) ea_nil)))) (sv_room_between (sq_of d1.fn) (sq_of d1.pt) d.wf d.len a1 a2 a3 a4 a5)) (fun H2 e2 => ?_)
      have d2 := d1.ex e2
      have g1 : (iv p)[i - 1]? = some (.int (p.getD (i - 1) 0)) := iv_getD (by rw [d.len]; omega)
      refine q_augL (j := i - 1) (g := fun a b => a + b) (T.ev_p (ev_var rfl) d2) (ev_is (ev_op (ev_var rfl) ev_c rv_I0) (by show V.int ((i : Int) - 1) = V.int ((i - 1 : Nat) : Int); congr 1; omega)) d2.pt g1 (ev_var (v := .int (roomI f p i j)) rfl) (fun H3 e3 => ?_)
      have e13 := (e1.trans e2).trans e3
      have dB : DeskAt A.Desk (upd H3 pa (.lst ((iv p).set (i - 1) (.int (p.getD (i - 1) 0 + roomI f p i j))))) x dx fa pa f (p.set (i - 1) (p.getD (i - 1) 0 + roomI f p i j)) := by
        have d3 := d.ex e13
        refine ⟨by rw [upd_ne d.xp.symm]; exact d3.obj, by rw [upd_ne d.ne]; exact d3.fn, by rw [upd_same, iv_set], d.ne, d.wf, d.v0, by rw [List.length_set, d.len]⟩
      have kB : Keep x pa H (upd H3 pa (.lst ((iv p).set (i - 1) (.int (p.getD (i - 1) 0 + roomI f p i j))))) := (Keep.of (ExtN.of e13)).mutp
      have tB' : Tabs Ts (upd H3 pa (.lst ((iv p).set (i - 1) (.int (p.getD (i - 1) 0 + roomI f p i j))))) := tabs_mut (t.ext e13) (d.ex e13).pt notbl_lst noext_lst
      generalize upd H3 pa (.lst ((iv p).set (i - 1) (.int (p.getD (i - 1) 0 + roomI f p i j)))) = HB at dB kB tB'
      have g2 : (iv (p.set (i - 1) (p.getD (i - 1) 0 + roomI f p i j)))[j - 1]? = some (.int ((p.set (i - 1) (p.getD (i - 1) 0 + roomI f p i j)).getD (j - 1) 0)) := iv_getD (by rw [List.length_set, d.len]; omega)
      refine q_augL (j := j - 1) (g := fun a b => a - b) (T.ev_p (ev_var rfl) dB) (ev_is (ev_op (ev_var rfl) ev_c rv_I0) (by show V.int ((j : Int) - 1) = V.int ((j - 1 : Nat) : Int); congr 1; omega)) dB.pt g2 (ev_var (v := .int (roomI f p i j)) rfl) (fun H4 e4 => ?_)
      have dC : DeskAt A.Desk (upd H4 pa (.lst ((iv (p.set (i - 1) (p.getD (i - 1) 0 + roomI f p i j))).set (j - 1) (.int ((p.set (i - 1) (p.getD (i - 1) 0 + roomI f p i j)).getD (j - 1) 0 - roomI f p i j))))) x dx fa pa f (moved p i j (roomI f p i j)) := by
        have d4 := dB.ex e4
        refine ⟨by rw [upd_ne d.xp.symm]; exact d4.obj, by rw [upd_ne d.ne]; exact d4.fn, by rw [upd_same, iv_set]; rfl, d.ne, d.wf, d.v0, by rw [moved_len, d.len]⟩
      have kC : Keep x pa H (upd H4 pa (.lst ((iv (p.set (i - 1) (p.getD (i - 1) 0 + roomI f p i j))).set (j - 1) (.int ((p.set (i - 1) (p.getD (i - 1) 0 + roomI f p i j)).getD (j - 1) 0 - roomI f p i j))))) := (kB.trans (Keep.of (ExtN.of e4))).mutp
      have tC' : Tabs Ts (upd H4 pa (.lst ((iv (p.set (i - 1) (p.getD (i - 1) 0 + roomI f p i j))).set (j - 1) (.int ((p.set (i - 1) (p.getD (i - 1) 0 + roomI f p i j)).getD (j - 1) 0 - roomI f p i j))))) := tabs_mut (tB'.ext e4) (dB.ex e4).pt notbl_lst noext_lst
      generalize upd H4 pa (.lst ((iv (p.set (i - 1) (p.getD (i - 1) 0 + roomI f p i j))).set (j - 1) (.int ((p.set (i - 1) (p.getD (i - 1) 0 + roomI f p i j)).getD (j - 1) 0 - roomI f p i j)))) = HC at dC kC tC'
      exact s_retL (el_call (ea_cons (ev_var (v := .int (roomI f p i j)) rfl) ea_nil) sl_as_fraction) (fun r H6 nr e6 h6 => q r H6 f _ _ hstep ⟨fa, pa, dC.ex e6, .inl rfl, .inl rfl, new_of kC dC.obj dC.pt nr, h6, kC.trans (Keep.of (ExtN.of e6)), tC'.ext e6⟩)
/-! greed -/
theorem greedy_len (f : Dr01.Fun) (ws : List Int) : (Dr02.greedy f ws).length = f.many := vertex_len f _
theorem ok_greed (T : Txt K mg A) {c Pt : Addr} (hC : HasC K mg "order_by_weight" s_order_by_weight ["weights"] c) (TB : TabB base mg c Pt) (hT : (Pt, lamQ) ∈ Ts) (hu : ∀ p ∈ Ts, p.1 = Pt → p.2 = lamQ) (k : Nat) : OkM P w K mg base A.Desk "greed" ["self", "row"] (k + 6) (MSp A.Desk Ts (GRow K .greed)) := by
  have o_base_by_greed := ok_base_by_greed (P := P) (w := w) (base := base) T hC TB hT hu k
  have o_wholes := ok_wholes (P := P) (w := w) (base := base) T (k + 3)
  have o_takes_row := ok_takes_row (P := P) (w := w) (base := base) T (k + 3)
  have o_in_parts := ok_in_parts (P := P) (w := w) (base := base) T (k + 4)
  have o_worth_of := ok_worth_of (P := P) (w := w) (base := base) T (k + 4)
  refine okm_of T.h_Desk_greed sc_Desk_greed (fun vs H Q E h => ?_) (fun f cdv Ar outer s H vs Q E hr h => ?_)
  · obtain ⟨x, dx, fa, pa, f, p, args, c, rfl, d, t, ⟨ra, l, rfl, _⟩, q⟩ := h
    rfl
  · obtain ⟨x, dx, fa, pa, f, p, args, c, rfl, d, t, ⟨ra, l, rfl, hra, hll, rfl⟩, q⟩ := h
    refine ⟨_, pss_cons (ps_if (pt_not (pt_val (pe_okm (pv 0) T.cl_Desk o_takes_row hr (pa_cons (pv 1) pa_nil)))) (pss_one (ps_ret (pe_lst (pa_cons (pe_gi rfl T.c_BAD_NUMBERS) pa_nil)))) pss_nil)
      (pss_cons (ps_set (i := 2) sc_Desk_greed.nd rfl (.inl rfl) (pe_ok o_wholes hr (by rfl) (pa_cons (pv 1) pa_nil)))
      (pss_cons (ps_set (i := 3) sc_Desk_greed.nd rfl (.inl rfl) (pe_ok o_base_by_greed hr (by rfl) (pa_cons (pe_fld (pv 0) rfl) (pa_cons (pv 2) pa_nil))))
      (pss_cons (ps_fld (pv 0) (pe_ok o_in_parts hr (by rfl) (pa_cons (pv 3) pa_nil)) rfl)
      (pss_one (ps_ret (pe_op op_cat (pe_lst (pa_cons (pe_ok o_worth_of hr (by rfl) (pa_cons (pv 3) (pa_cons (pv 2) pa_nil))) pa_nil)) (pv 3))))))), ?_⟩
    have hm := d.wf.hi
    have hstep : Dr02.step ⟨f, rp p⟩ (.greed l) = (match Dr02.wholes f l with
      | none => (⟨f, rp p⟩, [-1])
      | some v => (⟨f, Dr02.toRat (Dr02.greedy f v)⟩, Dr02.worth f v (Dr02.greedy f v) :: Dr02.greedy f v)) := rfl
    refine q_when (et_not (et_B (ev_meth (ev_var rfl) d.obj rfl (ea_cons (ev_var rfl) ea_nil) (sv_takes_row d hra (by omega))))) (fun hb H1 e1 => ?_) (fun hb H1 e1 => ?_)
    · rw [wholes_no (not_t hb)] at hstep
      exact s_retL (el_lst (ea_cons ev_c ea_nil) (by show 1 ≤ 100000; decide)) (fun r H2 hr2 e2 h2 => q r H2 f p [-1] hstep (Post.same d t (e1.trans e2) (fresh_back e1 hr2) h2))
    · obtain ⟨w1, w2, w3⟩ := wholes_yes (f := f) (l := l) (not_f hb)
      have hvl : (l.map Dr01.whole).length = f.many := by rw [List.length_map, w1]
      have hvb : ∀ m ∈ l.map Dr01.whole, -20000 ≤ m ∧ m ≤ 20000 := fun m hm => by
        obtain ⟨n, hn, rfl⟩ := List.mem_map.mp hm
        exact whole_bound (w2 n hn)
      rw [w3] at hstep
      refine q_asgL (el_call (ea_cons (ev_var rfl) ea_nil) (sl_wholes (ex_l e1 hra) (by omega))) (fun pw H2 npw e2 h2 => ?_)
      have e12 := e1.trans e2
      have d2 := d.ex e12
      refine ⟨.ref x, rfl, x, A.Desk, dx, _, _, rfl, d2.obj, T.cl_Desk, T.na_Desk_function, rfl, .ref pw, rfl, fa, pw, f, l.map Dr01.whole, rfl, sq_of d2.fn, sq_of h2, d.wf, hvl, t.ext e12, fun pv H3 npv ex3 t3 h3 => ?_⟩
      have e13 : ExtN H H3 := (ExtN.of e12).trans ex3
      have d3 := d.ext e13
      have h3w : H3 pw = some (.lst (iv (l.map Dr01.whole))) := ex3 _ _ h2 notbl_lst
      refine q_fldL (ys := iv ((Dr02.greedy f (l.map Dr01.whole)).map fun z => 60 * z)) (el_call (ea_cons (ev_var rfl) ea_nil) (sl_in_parts (sq_of h3) (by rw [greedy_len]; omega))) (ev_var rfl) d3.obj T.cl_Desk T.na_Desk_parts (by show 3 < 1000; decide) (fun pq H4 npq e4 h4 => ?_)
      have e14 : ExtN H H4 := e13.trans (ExtN.of e4)
      have nq : NewN H pq := NewN.of e13 npq
      have hql : ((Dr02.greedy f (l.map Dr01.whole)).map fun z => 60 * z).length = f.many := by rw [List.length_map, greedy_len]
      have dC := desk_base d e14 nq h4 hql
      have pvx : pv ≠ x := (npv x _ d2.obj notbl_ins).symm
      have pwx : pw ≠ x := fun z => by rw [z] at h2; rw [d2.obj] at h2; cases h2
      have hvC : (upd H4 x (.ins A.Desk dx (flds f fa pq))) pv = some (.lst (iv (Dr02.greedy f (l.map Dr01.whole)))) := by
        rw [upd_ne pvx]
        exact e4 _ _ h3
      have hwC : (upd H4 x (.ins A.Desk dx (flds f fa pq))) pw = some (.lst (iv (l.map Dr01.whole))) := by
        rw [upd_ne pwx]
        exact e4 _ _ h3w
      show tRet _ _ _ (upd H4 x (.ins A.Desk dx (flds f fa pq)))
      refine s_retL (el_catNL (xs := [.int (wsum (Dr02.greedy f (l.map Dr01.whole)) (l.map Dr01.whole))]) (el_lst (ea_cons (ev_call (ea_cons (ev_var rfl) (ea_cons (ev_var rfl) ea_nil)) (sv_worth_of (sq_of hvC) (sq_of hwC) (by rw [greedy_len, hvl]) (by rw [greedy_len]; exact hm) hvb)) ea_nil) (by show 1 ≤ 100000; decide)) (ev_var rfl) hvC (by rw [iv, List.length_map, greedy_len]; show 1 + _ ≤ 40000; omega)) (fun r H6 nr e6 h6 => ?_)
      refine q r H6 f ((Dr02.greedy f (l.map Dr01.whole)).map fun z => 60 * z) (wsum (Dr02.greedy f (l.map Dr01.whole)) (l.map Dr01.whole) :: Dr02.greedy f (l.map Dr01.whole)) ?_ (post_base d e14 nq h4 hql (t3.ext e4) e6 nr h6)
      rw [hstep, ← toRat_rp, ← worth_eq (greedy_len f _)]
/-! stretch -/
theorem ok_stretch (T : Txt K mg A) {c Pt : Addr} (hC : HasC K mg "order_by_weight" s_order_by_weight ["weights"] c) (TB : TabB base mg c Pt) (hT : (Pt, lamQ) ∈ Ts) (hu : ∀ p ∈ Ts, p.1 = Pt → p.2 = lamQ) (k : Nat) : OkM P w K mg base A.Desk "stretch" ["self", "row"] (k + 6) (MSp A.Desk Ts (GRow K .stretch)) := by
  have o_base_by_greed := ok_base_by_greed (P := P) (w := w) (base := base) T hC TB hT hu k
  have o_wholes := ok_wholes (P := P) (w := w) (base := base) T (k + 3)
  have o_takes_row := ok_takes_row (P := P) (w := w) (base := base) T (k + 3)
  have o_worth_of := ok_worth_of (P := P) (w := w) (base := base) T (k + 4)
  refine okm_of T.h_Desk_stretch sc_Desk_stretch (fun vs H Q E h => ?_) (fun f cdv Ar outer s H vs Q E hr h => ?_)
  · obtain ⟨x, dx, fa, pa, f, p, args, c, rfl, d, t, ⟨ra, l, rfl, _⟩, q⟩ := h
    rfl
  · obtain ⟨x, dx, fa, pa, f, p, args, c, rfl, d, t, ⟨ra, l, rfl, hra, hll, rfl⟩, q⟩ := h
    refine ⟨_, pss_cons (ps_if (pt_not (pt_val (pe_okm (pv 0) T.cl_Desk o_takes_row hr (pa_cons (pv 1) pa_nil)))) (pss_one (ps_ret (pe_lst (pa_cons (pe_gi rfl T.c_BAD_NUMBERS) pa_nil)))) pss_nil)
      (pss_cons (ps_set (i := 2) sc_Desk_stretch.nd rfl (.inl rfl) (pe_ok o_wholes hr (by rfl) (pa_cons (pv 1) pa_nil)))
      (pss_one (ps_ret (pe_lst (pa_cons pe_int (pa_cons (pe_ok o_worth_of hr (by rfl) (pa_cons (pe_ok o_base_by_greed hr (by rfl) (pa_cons (pe_fld (pv 0) rfl) (pa_cons (pv 2) pa_nil))) (pa_cons (pv 2) pa_nil))) pa_nil)))))), ?_⟩
    have hm := d.wf.hi
    have hstep : Dr02.step ⟨f, rp p⟩ (.stretch l) = (⟨f, rp p⟩, match Dr02.wholes f l with
      | none => [-1]
      | some v => [0, Dr02.worth f v (Dr02.greedy f v)]) := rfl
    refine q_when (et_not (et_B (ev_meth (ev_var rfl) d.obj rfl (ea_cons (ev_var rfl) ea_nil) (sv_takes_row d hra (by omega))))) (fun hb H1 e1 => ?_) (fun hb H1 e1 => ?_)
    · rw [wholes_no (not_t hb)] at hstep
      exact s_retL (el_lst (ea_cons ev_c ea_nil) (by show 1 ≤ 100000; decide)) (fun r H2 hr2 e2 h2 => q r H2 f p [-1] hstep (Post.same d t (e1.trans e2) (fresh_back e1 hr2) h2))
    · obtain ⟨w1, w2, w3⟩ := wholes_yes (f := f) (l := l) (not_f hb)
      have hvl : (l.map Dr01.whole).length = f.many := by rw [List.length_map, w1]
      have hvb : ∀ m ∈ l.map Dr01.whole, -20000 ≤ m ∧ m ≤ 20000 := fun m hm => by
        obtain ⟨n, hn, rfl⟩ := List.mem_map.mp hm
        exact whole_bound (w2 n hn)
      rw [w3] at hstep
      refine q_asgL (el_call (ea_cons (ev_var rfl) ea_nil) (sl_wholes (ex_l e1 hra) (by omega))) (fun pw H2 npw e2 h2 => ?_)
      have e12 := e1.trans e2
      have d2 := d.ex e12
      refine ⟨.ref x, rfl, x, A.Desk, dx, _, _, rfl, d2.obj, T.cl_Desk, T.na_Desk_function, rfl, .ref pw, rfl, fa, pw, f, l.map Dr01.whole, rfl, sq_of d2.fn, sq_of h2, d.wf, hvl, t.ext e12, fun pv H3 npv ex3 t3 h3 => ?_⟩
      have e13 : ExtN H H3 := (ExtN.of e12).trans ex3
      have h3w : H3 pw = some (.lst (iv (l.map Dr01.whole))) := ex3 _ _ h2 notbl_lst
      refine ⟨.ref pw, rfl, pv, pw, Dr02.greedy f (l.map Dr01.whole), l.map Dr01.whole, rfl, sq_of h3, sq_of h3w, by rw [greedy_len, hvl], by rw [greedy_len]; exact hm, hvb, fun H4 e4 => ⟨by show 2 ≤ sizeLine; decide, fun r nr => ?_⟩⟩
      have e14 : ExtN H H4 := e13.trans (ExtN.of e4)
      refine q r _ f p [0, wsum (Dr02.greedy f (l.map Dr01.whole)) (l.map Dr01.whole)] ?_ ⟨fa, pa, (d.ext e14).ex (Ex.new nr), .inl rfl, .inl rfl, NewN.of e14 nr, upd_same, Keep.of (e14.trans (ExtN.of (Ex.new nr))), (t3.ext e4).ext (Ex.new nr)⟩
      rw [hstep, ← worth_eq (greedy_len f _)]
end
end Sh
namespace Sh
open PySem PySem.Spec PyProof.Rows L2 Evl LamX NdefX
theorem pe_okmake {X : Cx} {C : Addr} {x : Str} {p pos : Pos} {k : Nat} {sp : Sp} (h : OkM X.prog X.w X.K X.mg X.base C "__init__" ["self"] k sp) (mk : PySem.W.makesIn X.K C = true) (kc : PySem.W.keepIn X.K (.ref C) = true) (hr : Room (k + 1) X.A) (hg : Gl X x) (hm : X.mg x = some (.ref C)) (hdb : (x == ("__debug__" : Str)) = false := by decide) :
    PE X (.Call (.Name x p) [] [] pos) (tMake C sp [] E0 tNil) := by
  obtain ⟨f, fd, F, m, b⟩ := h
  exact pe_make0 ⟨mk, m.at_, m.fn, kc⟩ F hr hg hm b .nil pass0 hdb
section
variable {K : PySem.W.Frag} {σ : L2.St} {H H' : Hp} {ta tb tc te tl tv : TE} {t : TT} {x y z v : V} {D : Ends} {tz tu : TS}
/-- if x == n .., x a number -/
theorem q_no {i : Nat} {k j : Int} (hv : σ[i]? = some (some (.int k))) (hne : k ≠ j) (h : tz D σ H) : tSeq (tIfS (tTest (tOp rEq (tVar i) (tC (.int j)))) tu tNext) tz D σ H := by
  refine ⟨.int k, hv, rfl, decide (V.int k = V.int j), rfl, ?_⟩
  have e : decide (V.int k = V.int j) = false := decide_eq_false fun z => hne (V.int.inj z)
  rw [e]
  exact h
theorem q_yes {i : Nat} {k j : Int} (hv : σ[i]? = some (some (.int k))) (he : k = j) (h : tu { D with nx := tz D } σ H) : tSeq (tIfS (tTest (tOp rEq (tVar i) (tC (.int j)))) tu tNext) tz D σ H := by
  refine ⟨.int k, hv, rfl, decide (V.int k = V.int j), rfl, ?_⟩
  have e : decide (V.int k = V.int j) = true := decide_eq_true (by rw [he])
  rw [e]
  exact h
theorem post_back {C : Addr} {Ts : List (Addr × Str)} {H1 H2 : Hp} {x dx fa pa r : Addr} {f' : Dr01.Fun} {p' ans : List Int} (e : Ex H H1) (h : Post C Ts H1 x dx fa pa f' p' ans r H2) : Post C Ts H x dx fa pa f' p' ans r H2 := by
  obtain ⟨fa', pa', d, h1, h2, h3, h4, h5, h6⟩ := h
  exact ⟨fa', pa', d, h1.imp id fun z => NewN.back (ExtN.of e) z, h2.imp id fun z => NewN.back (ExtN.of e) z, NewN.back (ExtN.of e) h3, h4, fun b o hb ho n1 n2 => h5 b o (e _ _ hb) ho n1 n2, h6⟩
/-- return desk.m(..) -/
theorem r_msp {C : Addr} {Ts : List (Addr × Str)} {G : Hp → List V → Dr02.Call → Prop} {x dx fa pa : Addr} {f : Dr01.Fun} {p : List Int} {m : Str} {t : TA} {args : List V} {c : Dr02.Call} {E : XK} (d : DeskAt C H x dx fa pa f p) (ts : Tabs Ts H) (h : Ev ta σ H (.ref x)) (hl : (flds f fa pa).lookup m = none) (ht : EvA t σ H args)
    (hG : ∀ H1, Ex H H1 → G H1 args c) (q : ∀ r H2 f' p' ans, Dr02.step ⟨f, rp p⟩ c = (⟨f', rp p'⟩, ans) → Post C Ts H x dx fa pa f' p' ans r H2 → D.rt (.ref r) H2) : tRet (tMeth C m (MSp C Ts G) [] E ta t) D σ H :=
  h H (Ex.refl H) _ fun H1 e1 => ⟨x, dx, _, rfl, (d.ex e1).obj, hl, ht H1 e1 _ fun H2 e2 => by
    rw [List.append_nil]
    exact ⟨x, dx, fa, pa, f, p, args, c, rfl, d.ex (e1.trans e2), ts.ext (e1.trans e2), hG H2 (e1.trans e2), fun r H3 f' p' ans hs hp => q r H3 f' p' ans hs (post_back (e1.trans e2) hp)⟩⟩
end
section
variable {P : Program} {w : World} {K : PySem.W.Frag} {mg : Str → Option Value} {base : Heap} {A : Adr} {Ts : List (Addr × Str)}
/-! answer_of -/
def sp_answer_of (K : PySem.W.Frag) (C : Addr) (Ts : List (Addr × Str)) : Sp := fun vs H Q _ => ∃ (x dx fa pa na ra : Addr) (f : Dr01.Fun) (p : List Int) (c : One), vs = [.ref x, ni c.p, .ref na, .ref ra] ∧ DeskAt C H x dx fa pa f p ∧ Tabs Ts H ∧ c.Ok ∧ SqL K H na (nv c.u) ∧ SqL K H ra (nv c.row) ∧
  ∀ r H2 f' p' ans, Dr02.step ⟨f, rp p⟩ c.call = (⟨f', rp p'⟩, ans) → Post C Ts H x dx fa pa f' p' ans r H2 → Q (.ref r) H2
theorem ok_answer_of (T : Txt K mg A) {c Pt : Addr} (hC : HasC K mg "order_by_weight" s_order_by_weight ["weights"] c) (TB : TabB base mg c Pt) (hT : (Pt, lamQ) ∈ Ts) (hu : ∀ p ∈ Ts, p.1 = Pt → p.2 = lamQ) (k : Nat) : Ok P w K mg base "answer_of" ["desk", "call", "numbers", "row"] (k + 8) (sp_answer_of K A.Desk Ts) := by
  have o_tell := ok_tell (P := P) (w := w) (base := base) (Ts := Ts) T (k + 1)
  have o_cover := ok_cover (P := P) (w := w) (base := base) (Ts := Ts) T (k + 1)
  have o_order := ok_order (P := P) (w := w) (base := base) (Ts := Ts) T (k + 3)
  have o_greed := ok_greed (P := P) (w := w) (base := base) (Ts := Ts) T hC TB hT hu (k + 1)
  have o_corners := ok_corners (P := P) (w := w) (base := base) (Ts := Ts) T (k + 2)
  have o_is_base := ok_is_base (P := P) (w := w) (base := base) (Ts := Ts) T (k + 2)
  have o_base := ok_base (P := P) (w := w) (base := base) (Ts := Ts) T (k + 4)
  have o_tight := ok_tight (P := P) (w := w) (base := base) (Ts := Ts) T (k + 1)
  have o_around := ok_around (P := P) (w := w) (base := base) (Ts := Ts) T k
  have o_room := ok_room (P := P) (w := w) (base := base) (Ts := Ts) T (k + 1)
  have o_move := ok_move (P := P) (w := w) (base := base) (Ts := Ts) T (k + 1)
  have o_fairest := ok_fairest (P := P) (w := w) (base := base) (Ts := Ts) T (k + 1)
  have o_stretch := ok_stretch (P := P) (w := w) (base := base) (Ts := Ts) T hC TB hT hu (k + 1)
  refine ok_of T.h_answer_of sc_answer_of (fun vs H Q E h => ?_) (fun f cdv Ar outer s H vs Q E hr h => ?_)
  · obtain ⟨x, dx, fa, pa, na, ra, f, p, c, rfl, _⟩ := h
    rfl
  · obtain ⟨x, dx, fa, pa, na, ra, f, p, c, rfl, d, t, ok, hna, hra, q⟩ := h
    refine ⟨_, pss_cons (ps_if (pt_cmpR op_eq (pv 1) (pe_gi rfl T.c_TELL) (nomark _)) (pss_one (ps_ret (pe_okm (pv 0) T.cl_Desk o_tell hr (pa_cons (pv 3) pa_nil)))) pss_nil)
      (pss_cons (ps_if (pt_cmpR op_eq (pv 1) (pe_gi rfl T.c_COVER) (nomark _)) (pss_one (ps_ret (pe_okm (pv 0) T.cl_Desk o_cover hr (pa_cons (pe_ix ix_list (pv 2) pe_int (fun _ _ => rfl)) (pa_cons (pv 3) pa_nil))))) pss_nil)
      (pss_cons (ps_if (pt_cmpR op_eq (pv 1) (pe_gi rfl T.c_ORDER) (nomark _)) (pss_one (ps_ret (pe_okm (pv 0) T.cl_Desk o_order hr (pa_cons (pv 3) pa_nil)))) pss_nil)
      (pss_cons (ps_if (pt_cmpR op_eq (pv 1) (pe_gi rfl T.c_GREED) (nomark _)) (pss_one (ps_ret (pe_okm (pv 0) T.cl_Desk o_greed hr (pa_cons (pv 3) pa_nil)))) pss_nil)
      (pss_cons (ps_if (pt_cmpR op_eq (pv 1) (pe_gi rfl T.c_CORNERS) (nomark _)) (pss_one (ps_ret (pe_okm0 (pv 0) T.cl_Desk o_corners hr ))) pss_nil)
      (pss_cons (ps_if (pt_cmpR op_eq (pv 1) (pe_gi rfl T.c_IS_BASE) (nomark _)) (pss_one (ps_ret (pe_okm (pv 0) T.cl_Desk o_is_base hr (pa_cons (pv 3) pa_nil)))) pss_nil)
      (pss_cons (ps_if (pt_cmpR op_eq (pv 1) (pe_gi rfl T.c_BASE) (nomark _)) (pss_one (ps_ret (pe_okm0 (pv 0) T.cl_Desk o_base hr ))) pss_nil)
      (pss_cons (ps_if (pt_cmpR op_eq (pv 1) (pe_gi rfl T.c_TIGHT) (nomark _)) (pss_one (ps_ret (pe_okm0 (pv 0) T.cl_Desk o_tight hr ))) pss_nil)
      (pss_cons (ps_if (pt_cmpR op_eq (pv 1) (pe_gi rfl T.c_AROUND) (nomark _)) (pss_one (ps_ret (pe_okm (pv 0) T.cl_Desk o_around hr (pa_cons (pe_ix ix_list (pv 2) pe_int (fun _ _ => rfl)) pa_nil)))) pss_nil)
      (pss_cons (ps_if (pt_cmpR op_eq (pv 1) (pe_gi rfl T.c_ROOM) (nomark _)) (pss_one (ps_ret (pe_okm (pv 0) T.cl_Desk o_room hr (pa_cons (pe_ix ix_list (pv 2) pe_int (fun _ _ => rfl)) (pa_cons (pe_ix ix_list (pv 2) pe_int (fun _ _ => rfl)) pa_nil))))) pss_nil)
      (pss_cons (ps_if (pt_cmpR op_eq (pv 1) (pe_gi rfl T.c_MOVE) (nomark _)) (pss_one (ps_ret (pe_okm (pv 0) T.cl_Desk o_move hr (pa_cons (pe_ix ix_list (pv 2) pe_int (fun _ _ => rfl)) (pa_cons (pe_ix ix_list (pv 2) pe_int (fun _ _ => rfl)) pa_nil))))) pss_nil)
      (pss_cons (ps_if (pt_cmpR op_eq (pv 1) (pe_gi rfl T.c_FAIREST) (nomark _)) (pss_one (ps_ret (pe_okm0 (pv 0) T.cl_Desk o_fairest hr ))) pss_nil)
      (pss_one (ps_ret (pe_okm (pv 0) T.cl_Desk o_stretch hr (pa_cons (pv 3) pa_nil))))))))))))))), ?_⟩
    have hrow := ok.len
    rcases one_form c ok with ⟨r, rfl⟩ | ⟨a, r, rfl⟩ | ⟨r, rfl⟩ | ⟨r, rfl⟩ | rfl | ⟨r, rfl⟩ | rfl | rfl | ⟨a, rfl⟩ | ⟨a, b, rfl⟩ | ⟨a, b, rfl⟩ | rfl | ⟨r, rfl⟩
    · refine q_yes rfl rfl ?_
      exact r_msp d t (ev_var rfl) rfl (ea_cons (ev_var rfl) ea_nil) (fun H1 e1 => ⟨ra, r, rfl, ex_l e1 hra, hrow, rfl⟩) q
    · refine q_no rfl (by dsimp only; decide) (q_yes rfl rfl ?_)
      exact r_msp d t (ev_var rfl) rfl (ea_cons (ev_ixN (i := 0) (v := ni a) (ev_var rfl) ev_c hna rfl) (ea_cons (ev_var rfl) ea_nil)) (fun H1 e1 => ⟨a, ra, r, rfl, ex_l e1 hra, hrow, rfl⟩) q
    · refine q_no rfl (by dsimp only; decide) (q_no rfl (by dsimp only; decide) (q_yes rfl rfl ?_))
      exact r_msp d t (ev_var rfl) rfl (ea_cons (ev_var rfl) ea_nil) (fun H1 e1 => ⟨ra, r, rfl, ex_l e1 hra, hrow, rfl⟩) q
    · refine q_no rfl (by dsimp only; decide) (q_no rfl (by dsimp only; decide) (q_no rfl (by dsimp only; decide) (q_yes rfl rfl ?_)))
      exact r_msp d t (ev_var rfl) rfl (ea_cons (ev_var rfl) ea_nil) (fun H1 e1 => ⟨ra, r, rfl, ex_l e1 hra, hrow, rfl⟩) q
    · refine q_no rfl (by dsimp only; decide) (q_no rfl (by dsimp only; decide) (q_no rfl (by dsimp only; decide) (q_no rfl (by dsimp only; decide) (q_yes rfl rfl ?_))))
      exact r_msp d t (ev_var rfl) rfl ea_nil (fun H1 e1 => ⟨rfl, rfl⟩) q
    · refine q_no rfl (by dsimp only; decide) (q_no rfl (by dsimp only; decide) (q_no rfl (by dsimp only; decide) (q_no rfl (by dsimp only; decide) (q_no rfl (by dsimp only; decide) (q_yes rfl rfl ?_)))))
      exact r_msp d t (ev_var rfl) rfl (ea_cons (ev_var rfl) ea_nil) (fun H1 e1 => ⟨ra, r, rfl, ex_l e1 hra, hrow, rfl⟩) q
    · refine q_no rfl (by dsimp only; decide) (q_no rfl (by dsimp only; decide) (q_no rfl (by dsimp only; decide) (q_no rfl (by dsimp only; decide) (q_no rfl (by dsimp only; decide) (q_no rfl (by dsimp only; decide) (q_yes rfl rfl ?_))))))
      exact r_msp d t (ev_var rfl) rfl ea_nil (fun H1 e1 => ⟨rfl, rfl⟩) q
    · refine q_no rfl (by dsimp only; decide) (q_no rfl (by dsimp only; decide) (q_no rfl (by dsimp only; decide) (q_no rfl (by dsimp only; decide) (q_no rfl (by dsimp only; decide) (q_no rfl (by dsimp only; decide) (q_no rfl (by dsimp only; decide) (q_yes rfl rfl ?_)))))))
      exact r_msp d t (ev_var rfl) rfl ea_nil (fun H1 e1 => ⟨rfl, rfl⟩) q
    · refine q_no rfl (by dsimp only; decide) (q_no rfl (by dsimp only; decide) (q_no rfl (by dsimp only; decide) (q_no rfl (by dsimp only; decide) (q_no rfl (by dsimp only; decide) (q_no rfl (by dsimp only; decide) (q_no rfl (by dsimp only; decide) (q_no rfl (by dsimp only; decide) (q_yes rfl rfl ?_))))))))
      exact r_msp d t (ev_var rfl) rfl (ea_cons (ev_ixN (i := 0) (v := ni a) (ev_var rfl) ev_c hna rfl) ea_nil) (fun H1 e1 => ⟨a, rfl, rfl⟩) q
    · refine q_no rfl (by dsimp only; decide) (q_no rfl (by dsimp only; decide) (q_no rfl (by dsimp only; decide) (q_no rfl (by dsimp only; decide) (q_no rfl (by dsimp only; decide) (q_no rfl (by dsimp only; decide) (q_no rfl (by dsimp only; decide) (q_no rfl (by dsimp only; decide) (q_no rfl (by dsimp only; decide) (q_yes rfl rfl ?_)))))))))
      exact r_msp d t (ev_var rfl) rfl (ea_cons (ev_ixN (i := 0) (v := ni a) (ev_var rfl) ev_c hna rfl) (ea_cons (ev_ixN (i := 1) (v := ni b) (ev_var rfl) ev_c hna rfl) ea_nil)) (fun H1 e1 => ⟨a, b, rfl, rfl⟩) q
    · refine q_no rfl (by dsimp only; decide) (q_no rfl (by dsimp only; decide) (q_no rfl (by dsimp only; decide) (q_no rfl (by dsimp only; decide) (q_no rfl (by dsimp only; decide) (q_no rfl (by dsimp only; decide) (q_no rfl (by dsimp only; decide) (q_no rfl (by dsimp only; decide) (q_no rfl (by dsimp only; decide) (q_no rfl (by dsimp only; decide) (q_yes rfl rfl ?_))))))))))
      exact r_msp d t (ev_var rfl) rfl (ea_cons (ev_ixN (i := 0) (v := ni a) (ev_var rfl) ev_c hna rfl) (ea_cons (ev_ixN (i := 1) (v := ni b) (ev_var rfl) ev_c hna rfl) ea_nil)) (fun H1 e1 => ⟨a, b, rfl, rfl⟩) q
    · refine q_no rfl (by dsimp only; decide) (q_no rfl (by dsimp only; decide) (q_no rfl (by dsimp only; decide) (q_no rfl (by dsimp only; decide) (q_no rfl (by dsimp only; decide) (q_no rfl (by dsimp only; decide) (q_no rfl (by dsimp only; decide) (q_no rfl (by dsimp only; decide) (q_no rfl (by dsimp only; decide) (q_no rfl (by dsimp only; decide) (q_no rfl (by dsimp only; decide) (q_yes rfl rfl ?_)))))))))))
      exact r_msp d t (ev_var rfl) rfl ea_nil (fun H1 e1 => ⟨rfl, rfl⟩) q
    · refine q_no rfl (by dsimp only; decide) (q_no rfl (by dsimp only; decide) (q_no rfl (by dsimp only; decide) (q_no rfl (by dsimp only; decide) (q_no rfl (by dsimp only; decide) (q_no rfl (by dsimp only; decide) (q_no rfl (by dsimp only; decide) (q_no rfl (by dsimp only; decide) (q_no rfl (by dsimp only; decide) (q_no rfl (by dsimp only; decide) (q_no rfl (by dsimp only; decide) (q_no rfl (by dsimp only; decide) ?_)))))))))))
      exact r_msp d t (ev_var rfl) rfl (ea_cons (ev_var rfl) ea_nil) (fun H1 e1 => ⟨ra, r, rfl, ex_l e1 hra, hrow, rfl⟩) q
end
end Sh
namespace Sh
open PySem PySem.Spec PyProof.Rows L2 Evl LamX NdefX
theorem cut_at {pre mid post : List Nat} {a b : Nat} (ha : a = pre.length) (hb : b = pre.length + mid.length) : cutV (nv (pre ++ (mid ++ post))) (some (a : Int)) (some (b : Int)) = nv mid := by
  unfold cutV
  have hl : (nv (pre ++ (mid ++ post))).length = pre.length + (mid.length + post.length) := by rw [nv, List.length_map, List.length_append, List.length_append]
  rw [HT.sIx_nat, HT.sIx_nat, hl, Nat.min_eq_left (by omega), Nat.min_eq_left (by omega), ha, hb, nv, ← List.map_drop, ← List.map_take, List.drop_left, Nat.add_sub_cancel_left, List.take_left]
section
variable {K : PySem.W.Frag} {σ : L2.St} {H H' : Hp} {ta tb tc te tl tv : TE} {t : TT} {x y z v : V} {D : Ends} {tz tu : TS}
theorem q_appS {l : Addr} {xs : List V} (hl : H l = some (.lst xs)) (ha : Ev ta σ H (.ref l)) (h : Ev te σ H v) (hz : xs.length < sizeLine) (k : ∀ H1, Ex H H1 → tz D σ (upd H1 l (.lst (xs ++ [v])))) :
    tSeq (tDrop (tBM K "list" rAppend ta (tCons te tNil))) tz D σ H := ha H (Ex.refl H) _ fun H1 e1 =>
  ⟨Or.inl ⟨rfl, xs, sq_of (e1 l _ hl)⟩, h H1 e1 _ fun H2 e2 => ⟨l, xs, v, rfl, rfl, e2 l _ (e1 l _ hl), hz, k H2 (e1.trans e2)⟩⟩
theorem s_extS {l b : Addr} {xs ys : List V} (hl : H l = some (.lst xs)) (ha : Ev ta σ H (.ref l)) (h : Ev te σ H (.ref b)) (hb : H b = some (.lst ys)) (hz : xs.length + ys.length ≤ sizeLine) (k : ∀ H1, Ex H H1 → D.nx σ (upd H1 l (.lst (xs ++ ys)))) :
    tDrop (tBM K "list" rExtend ta (tCons te tNil)) D σ H := ha H (Ex.refl H) _ fun H1 e1 =>
  ⟨Or.inl ⟨rfl, xs, sq_of (e1 l _ hl)⟩, h H1 e1 _ fun H2 e2 => ⟨l, b, xs, ys, rfl, rfl, e2 l _ (e1 l _ hl), e2 _ _ (e1 _ _ hb), hz, k H2 (e1.trans e2)⟩⟩
end
/-- the calls, where they stand -/
def CallsAt (K : PySem.W.Frag) (a r0 : Addr) (l : List Nat) (H : Hp) (pa : Addr) : Prop :=
  (∀ H', SqL K H' a (nv l)) ∨ ∃ u, H a = some u ∧ (∀ ps, u ≠ .tbl ps) ∧ (∀ C dx fs, u ≠ .ins C dx fs) ∧ a ≠ pa ∧ a ≠ r0 ∧ ∀ H', H' a = some u → SqL K H' a (nv l)
theorem CallsAt.sq {K : PySem.W.Frag} {a r0 pa : Addr} {l : List Nat} {H : Hp} (h : CallsAt K a r0 l H pa) : SqL K H a (nv l) := by
  rcases h with h | ⟨u, hu, _, _, _, _, h⟩
  · exact h H
  · exact h H hu
theorem CallsAt.ex {K : PySem.W.Frag} {a r0 pa : Addr} {l : List Nat} {H H' : Hp} (h : CallsAt K a r0 l H pa) (e : Ex H H') : CallsAt K a r0 l H' pa := by
  rcases h with h | ⟨u, hu, h1, h2, h3, h4, h⟩
  · exact .inl h
  · exact .inr ⟨u, e _ _ hu, h1, h2, h3, h4, h⟩
theorem CallsAt.of {K : PySem.W.Frag} {a r0 pa : Addr} {l : List Nat} {H H1 : Hp} (h : SqL K H a (nv l)) (e : Ex H H1) (hp : H pa = none) (hr : H r0 = none) : CallsAt K a r0 l H1 pa := by
  have ne : ∀ {q : Addr} {o : HO}, H a = some o → H q = none → a ≠ q := fun ho hq z => by
    rw [z, hq] at ho
    cases ho
  rcases h with (h | ⟨o, h⟩) | h
  · exact .inr ⟨_, e _ _ h, (fun ps z => by cases z), (fun C dx fs z => by cases z), ne h hp, ne h hr, fun H' h' => .inl (.inl h')⟩
  · exact .inr ⟨_, e _ _ h, (fun ps z => by cases z), (fun C dx fs z => by cases z), ne h hp, ne h hr, fun H' h' => .inl (.inr ⟨o, h'⟩)⟩
  · exact .inl fun H' => .inr h
theorem whole_at : ∀ {p : Nat}, p < 13 → (iv [0, 1, 0, 0, 0, 0, 0, 0, 1, 2, 2, 0, 0])[p]? = some (ni (wh p)) := by
  intro p hp
  have : p = 0 ∨ p = 1 ∨ p = 2 ∨ p = 3 ∨ p = 4 ∨ p = 5 ∨ p = 6 ∨ p = 7 ∨ p = 8 ∨ p = 9 ∨ p = 10 ∨ p = 11 ∨ p = 12 := by omega
  rcases this with rfl | rfl | rfl | rfl | rfl | rfl | rfl | rfl | rfl | rfl | rfl | rfl | rfl <;> rfl
theorem rows_at : ∀ {p : Nat}, p < 13 → (iv [1, 1, 1, 1, 0, 1, 0, 0, 0, 0, 0, 0, 1])[p]? = some (ni (rw_ p)) := by
  intro p hp
  have : p = 0 ∨ p = 1 ∨ p = 2 ∨ p = 3 ∨ p = 4 ∨ p = 5 ∨ p = 6 ∨ p = 7 ∨ p = 8 ∨ p = 9 ∨ p = 10 ∨ p = 11 ∨ p = 12 := by omega
  rcases this with rfl | rfl | rfl | rfl | rfl | rfl | rfl | rfl | rfl | rfl | rfl | rfl | rfl <;> rfl
theorem nv_at {pre post : List Nat} {n m : Nat} (h : n = pre.length) : (nv (pre ++ (m :: post)))[n]? = some (ni m) := by
  rw [nv, List.getElem?_map, h, List.getElem?_append_right (Nat.le_refl _), Nat.sub_self]
  rfl
theorem init_eq : Dr02.init = ⟨Dr01.zero 1, rp [0]⟩ := by
  show (⟨Dr01.zero 1, Dr02.toRat (Dr02.vertex (Dr01.zero 1) (Dr01.things (Dr01.zero 1)))⟩ : Dr02.St) = _
  rw [toRat_rp]
  have : (Dr02.vertex (Dr01.zero 1) (Dr01.things (Dr01.zero 1))).map (fun z => 60 * z) = [0] := by decide
  rw [this]
section
variable {P : Program} {w : World} {K : PySem.W.Frag} {mg : Str → Option Value} {base : Heap} {A : Adr} {Ts : List (Addr × Str)}
def sp_answers (K : PySem.W.Frag) (Ts : List (Addr × Str)) : Sp := fun vs H Q _ => ∃ (a : Addr) (cs : List One), vs = [.ref a] ∧ SqL K H a (nv (segs cs)) ∧ (∀ c ∈ cs, c.Ok) ∧ (PyFlat.told (playS Dr02.init cs)).length ≤ 10000000 ∧ Tabs Ts H ∧
  ∀ r H2, H2 r = some (.lst (iv (PyFlat.told (playS Dr02.init cs)))) → Q (.ref r) H2
theorem fn_answers (T : Txt K mg A) {fa : Addr} {fd : FuncData} (FA : Fun K "answers" "answers" s_answers fa fd) {c Pt : Addr} (hC : HasC K mg "order_by_weight" s_order_by_weight ["weights"] c) (TB : TabB base mg c Pt) (hT : (Pt, lamQ) ∈ Ts) (hu : ∀ p ∈ Ts, p.1 = Pt → p.2 = lamQ) (k : Nat) : FnOk P w K mg base CX0 (k + 9) fa fd ["calls"] (sp_answers K Ts) := by
  have o_answer_of := ok_answer_of (P := P) (w := w) (base := base) (Ts := Ts) T hC TB hT hu k
  have o_init := ok_init (P := P) (w := w) (base := base) T (k + 6)
  refine FA.ok sc_answers (fun vs H Q E h => ?_) (fun cdv Ar outer s H vs Q E hr h => ?_)
  · obtain ⟨a, cs, rfl, _⟩ := h
    rfl
  · obtain ⟨a, cs, rfl, ha, hok, hlen, t, q⟩ := h
    refine ⟨_, pss_cons (ps_set (i := 1) sc_answers.nd rfl (.inl rfl) (pe_okmake o_init T.mk_Desk T.kc_Desk hr rfl T.g_Desk))
      (pss_cons (ps_set (i := 2) sc_answers.nd rfl (.inl rfl) (pe_lst pa_nil))
      (pss_cons (ps_set (i := 3) sc_answers.nd rfl (.inl rfl) pe_int)
      (pss_cons (ps_while PassesOwn.never (pt_cmpR op_lt (pv 3) (pe_callB call_len_seq (by rfl) T.b_len PySem.boot_len (pa_cons (pv 0) pa_nil)) (nomark _)) (pss_cons (ps_set (i := 4) sc_answers.nd rfl (.inl rfl) (pe_ix ix_list (pv 0) (pv 3) (fun _ _ => rfl)))
      (pss_cons (ps_set (i := 5) sc_answers.nd rfl (.inl rfl) (pe_op op_add (pe_op op_add (pv 3) pe_int) (pe_ix ix_tup (pe_gr rfl T.c_WHOLES_OF_CALL) (pv 4) (fun _ _ => rfl))))
      (pss_cons (ps_set (i := 6) sc_answers.nd rfl (.inl rfl) (pe_slice sl_list (pv 0) (po_some (pe_op op_add (pv 3) pe_int)) (po_some (pv 5))))
      (pss_cons (ps_set (i := 7) sc_answers.nd rfl (.inl rfl) (pe_lst pa_nil))
      (pss_cons (ps_set (i := 3) sc_answers.nd rfl (.inl rfl) (pv 5))
      (pss_cut (ps_if (pt_cmpR op_eq (pe_ix ix_tup (pe_gr rfl T.c_ROWS_OF_CALL) (pv 4) (fun _ _ => rfl)) pe_int (nomark _)) (pss_cons (ps_set (i := 3) sc_answers.nd rfl (.inl rfl) (pe_op op_add (pe_op op_add (pv 5) pe_int) (pe_ix ix_list (pv 0) (pv 5) (fun _ _ => rfl))))
      (pss_one (ps_set (i := 7) sc_answers.nd rfl (.inl rfl) (pe_slice sl_list (pv 0) (po_some (pe_op op_add (pv 5) pe_int)) (po_some (pv 3)))))) pss_nil)
      (pss_cons (ps_set (i := 8) sc_answers.nd rfl (.inl rfl) (pe_ok o_answer_of hr (by rfl) (pa_cons (pv 1) (pa_cons (pv 4) (pa_cons (pv 6) (pa_cons (pv 7) pa_nil))))))
      (pss_cons (ps_expr (pe_bm PySem.F.plainAttrs_list PySem.F.slot_list_append PySem.F.type_list_append mt_append (pv 2) (pa_cons (pe_callB call_len_seq (by rfl) T.b_len PySem.boot_len (pa_cons (pv 8) pa_nil)) pa_nil)))
      (pss_one (ps_expr (pe_bm PySem.F.plainAttrs_list PySem.F.slot_list_extend PySem.F.type_list_extend mt_extend (pv 2) (pa_cons (pv 8) pa_nil)))))))))))))
      (pss_one (ps_ret (pv 2)))))), ?_⟩
    intro x dx nx ndx hne
    refine ⟨x, dx, rfl, upd_same, fun H1 fa0 pa0 d0 nfa npa k1 => ⟨rfl, ?_⟩⟩
    have e1 : Ex H H1 := fun b o hb => k1 b o (by
      rw [upd_ne (ne_of_none hb nx), upd_ne (ne_of_none hb ndx)]
      exact hb) (ne_of_none hb nx)
    have npaH : H pa0 = none := by
      cases z : H pa0 with
      | none => rfl
      | some o =>
        rw [upd_ne (ne_of_none z nx), upd_ne (ne_of_none z ndx), z] at npa
        cases npa
    refine q_asgL (el_lst ea_nil (by decide)) (fun r0 H2 nr0 e2 h2 => ?_)
    have r0x : r0 ≠ x := fun z => by rw [z, d0.obj] at nr0; cases nr0
    refine q_asg (v := ni 0) ev_c (fun H3 e3 => ?_)
    have e13 := (e1.trans e2).trans e3
    refine q_while (fun m σ' H' => ∃ (ds rest : List One) (fa pa : Addr) (f : Dr01.Fun) (p : List Int) (x4 x5 x6 x7 x8 : Option V), cs = ds ++ rest ∧ rest.length = m ∧ σ' = [some (.ref a), some (.ref x), some (.ref r0), some (ni (segs ds).length), x4, x5, x6, x7, x8] ∧
      DeskAt A.Desk H' x dx fa pa f p ∧ stAfter Dr02.init ds = ⟨f, rp p⟩ ∧ H' r0 = some (.lst (iv (PyFlat.told (playS Dr02.init ds)))) ∧ r0 ≠ fa ∧ r0 ≠ pa ∧ CallsAt K a r0 (segs cs) H' pa ∧ Tabs Ts H') cs.length
      ⟨[], cs, fa0, pa0, Dr01.zero 1, [0], none, none, none, none, none, rfl, rfl, rfl, d0.ex (e2.trans e3), init_eq, e3 _ _ h2, (fun z => by rw [z, d0.fn] at nr0; cases nr0), (fun z => by rw [z, d0.pt] at nr0; cases nr0), CallsAt.of ha e13 npaH (fresh_back e1 nr0), t.ext e13⟩ (fun m σ' H' hw => ?_)
    obtain ⟨ds, rest, fa, pa, f, p, x4, x5, x6, x7, x8, hcs, hm, rfl, d, hst, hr0, r0f, r0p, hca, tt⟩ := hw
    refine ⟨decide ((segs ds).length < (segs cs).length), et_is (et_test (ev_op (ev_var rfl) (ev_is (w := .int ((segs cs).length : Int)) (ev_lenL (ev_var rfl) hca.sq rfl) (by rw [nv, List.length_map]; rfl)) rv_I0)) (by rw [Bool.eq_iff_iff, decide_eq_true_eq, decide_eq_true_eq]; omega), fun hb H4 e4 => ?_, fun hb H4 e4 => ?_⟩
    · cases rest with
      | nil =>
        rw [List.append_nil] at hcs
        rw [hcs] at hb
        have := of_decide_eq_true hb
        omega
      | cons c rest =>
        have okc : c.Ok := hok c (by rw [hcs]; exact List.mem_append_right _ (List.mem_cons_self ..))
        have hp13 : c.p < 13 := by have := okc.p; omega
        have hsc : segs cs = segs ds ++ (c.seg ++ segs rest) := by rw [hcs, segs_append, segs_cons]
        have hcs' : cs = (ds ++ [c]) ++ rest := by rw [hcs, List.append_assoc]; rfl
        refine ⟨fun σ' H' => ∃ (ds rest : List One) (fa pa : Addr) (f : Dr01.Fun) (p : List Int) (x4 x5 x6 x7 x8 : Option V), cs = ds ++ rest ∧ rest.length = m - 1 ∧ σ' = [some (.ref a), some (.ref x), some (.ref r0), some (ni (segs ds).length), x4, x5, x6, x7, x8] ∧
          DeskAt A.Desk H' x dx fa pa f p ∧ stAfter Dr02.init ds = ⟨f, rp p⟩ ∧ H' r0 = some (.lst (iv (PyFlat.told (playS Dr02.init ds)))) ∧ r0 ≠ fa ∧ r0 ≠ pa ∧ CallsAt K a r0 (segs cs) H' pa ∧ Tabs Ts H', fun σ2 H2 hn => ⟨m - 1, by rw [List.length_cons] at hm; omega, hn⟩, ?_⟩
        have hca4 := hca.ex e4
        have g1 : (nv (segs cs))[(segs ds).length]? = some (ni c.p) := by
          rw [hsc]
          unfold One.seg
          exact nv_at rfl
        refine q_asg (v := ni c.p) (ev_ixN (ev_var rfl) (ev_var rfl) hca4.sq g1) (fun H5 e5 => ?_)
        refine q_asg (v := ni ((segs ds).length + 1 + wh c.p)) (ev_is (ev_op (ev_op (ev_var rfl) ev_c rv_I0) (ev_ixTN ev_c (ev_var (v := ni c.p) rfl) (T.t_WHOLES_OF_CALL _) (whole_at hp13)) rv_I0) rfl) (fun H6 e6 => ?_)
        have hca6 := (hca4.ex e5).ex e6
        have c1 : cutV (nv (segs cs)) (some (((segs ds).length + 1 : Nat) : Int)) (some (((segs ds).length + 1 + wh c.p : Nat) : Int)) = nv c.u := by
          have hx : segs cs = (segs ds ++ [c.p]) ++ (c.u ++ ((if rw_ c.p = 1 then c.row.length :: c.row else []) ++ segs rest)) := by
            rw [hsc]
            unfold One.seg
            simp
          rw [hx]
          exact cut_at (by rw [List.length_append]; rfl) (by rw [List.length_append, okc.u]; rfl)
        refine q_asgL (xs := nv c.u) (by
          rw [← c1]
          exact el_sl (ev_var rfl) (eo_some (ev_op (ev_var rfl) ev_c rv_I0)) (eo_some (ev_var rfl)) hca6.sq) (fun na H7 nna e7 h7 => ?_)
        refine q_asgL (el_lst ea_nil (by decide)) (fun ra0 H8 nra0 e8 h8 => ?_)
        refine q_asg (ev_var (v := ni ((segs ds).length + 1 + wh c.p)) rfl) (fun H9 e9 => ?_)
        have hca9 := ((hca6.ex e7).ex e8).ex e9
        refine q_cut (M := fun σ' H' => Ex H9 H' ∧ ∃ ra, H' ra = some (.lst (nv c.row)) ∧ σ' = [some (.ref a), some (.ref x), some (.ref r0), some (ni (segs (ds ++ [c])).length), some (ni c.p), some (ni ((segs ds).length + 1 + wh c.p)), some (.ref na), some (.ref ra), x8]) ?_ (fun σ' H10 hm10 => ?_)
        · have hsl : (segs (ds ++ [c])).length = (segs ds).length + c.seg.length := by rw [segs_append, List.length_append, segs_cons]; show _ + (c.seg ++ []).length = _; rw [List.append_nil]
          refine s_when (et_is (ev_eqI (ev_ixTN ev_c (ev_var (v := ni c.p) rfl) (T.t_ROWS_OF_CALL _) (rows_at hp13)) ev_c) (b := decide (rw_ c.p = 1)) (by rw [Bool.eq_iff_iff, decide_eq_true_eq, decide_eq_true_eq]; omega)) (fun hb1 H10 e10 => ?_) (fun hb1 H10 e10 => ?_)
          · have h1 : rw_ c.p = 1 := of_decide_eq_true hb1
            have hx : segs cs = (segs ds ++ (c.p :: c.u)) ++ (c.row.length :: (c.row ++ segs rest)) := by
              rw [hsc]
              unfold One.seg
              rw [if_pos h1]
              simp
            have hx2 : segs cs = (segs ds ++ (c.p :: (c.u ++ [c.row.length]))) ++ (c.row ++ segs rest) := by
              rw [hsc]
              unfold One.seg
              rw [if_pos h1]
              simp
            have g2 : (nv (segs cs))[(segs ds).length + 1 + wh c.p]? = some (ni c.row.length) := by
              rw [hx]
              exact nv_at (by rw [List.length_append, List.length_cons, okc.u]; omega)
            have hseg : c.seg.length = 1 + wh c.p + 1 + c.row.length := by
              unfold One.seg
              rw [if_pos h1, List.length_cons, List.length_append, List.length_cons, okc.u]
              omega
            have c2 : cutV (nv (segs cs)) (some (((segs ds).length + 1 + wh c.p + 1 : Nat) : Int)) (some (((segs ds).length + 1 + wh c.p + 1 + c.row.length : Nat) : Int)) = nv c.row := by
              rw [hx2]
              refine cut_at ?_ ?_ <;> rw [List.length_append, List.length_cons, List.length_append, okc.u] <;> simp <;> omega
            refine q_asg (v := ni ((segs ds).length + 1 + wh c.p + 1 + c.row.length)) (ev_is (ev_op (ev_op (ev_var (v := ni ((segs ds).length + 1 + wh c.p)) rfl) ev_c rv_I0) (ev_ixN (ev_var rfl) (ev_var (v := ni ((segs ds).length + 1 + wh c.p)) rfl) (hca9.ex e10).sq g2) rv_I0) rfl) (fun H11 e11 => ?_)
            refine s_asgL (xs := nv c.row) (by
              rw [← c2]
              exact el_sl (ev_var rfl) (eo_some (ev_op (ev_var (v := ni ((segs ds).length + 1 + wh c.p)) rfl) ev_c rv_I0)) (eo_some (ev_var (v := ni ((segs ds).length + 1 + wh c.p + 1 + c.row.length)) rfl)) ((hca9.ex e10).ex e11).sq) (fun ra H12 nra e12 h12 => ⟨(e10.trans e11).trans e12, ra, h12, ?_⟩)
            have ez : (segs (ds ++ [c])).length = (segs ds).length + 1 + wh c.p + 1 + c.row.length := by omega
            rw [ez]
            rfl
          · have h0 : rw_ c.p = 0 := (rw_case c okc).resolve_right (of_decide_eq_false hb1)
            have hseg : c.seg.length = 1 + wh c.p := by
              unfold One.seg
              rw [if_neg (by omega), List.length_cons, List.length_append, okc.u]
              show wh c.p + 0 + 1 = _
              omega
            refine ⟨e10, ra0, ?_, ?_⟩
            · rw [okc.row h0]
              exact e10 _ _ (e9 _ _ h8)
            · have ez : (segs (ds ++ [c])).length = (segs ds).length + 1 + wh c.p := by omega
              rw [ez]
              rfl
        · obtain ⟨e10, ra, hra, rfl⟩ := hm10
          have e410 : Ex H' H10 := (((((e4.trans e5).trans e6).trans e7).trans e8).trans e9).trans e10
          have d10 := d.ex e410
          have hna : H10 na = some (.lst (nv c.u)) := e10 _ _ (e9 _ _ (e8 _ _ h7))
          refine ⟨.ref x, rfl, ni c.p, rfl, .ref na, rfl, .ref ra, rfl, x, dx, fa, pa, na, ra, f, p, c, rfl, d10, tt.ext e410, okc, sq_of hna, sq_of hra, fun r H11 f' p' ans hs hp => ?_⟩
          obtain ⟨fa', pa', d11, hfa, hpa, nr, hr11, kp, t11⟩ := hp
          have hr0' : H11 r0 = some (.lst (iv (PyFlat.told (playS Dr02.init ds)))) := kp _ _ (e410 _ _ hr0) notbl_lst r0x r0p
          have r0f' : r0 ≠ fa' := hfa.elim (fun z => by rw [z]; exact r0f) fun z => z r0 _ (e410 _ _ hr0) notbl_lst
          have r0p' : r0 ≠ pa' := hpa.elim (fun z => by rw [z]; exact r0p) fun z => z r0 _ (e410 _ _ hr0) notbl_lst
          have rr0 : r ≠ r0 := (nr r0 _ (e410 _ _ hr0) notbl_lst).symm
          have hst' : stAfter Dr02.init (ds ++ [c]) = ⟨f', rp p'⟩ := by rw [stAfter_snoc, hst, hs]
          have htold : PyFlat.told (playS Dr02.init (ds ++ [c])) = PyFlat.told (playS Dr02.init ds) ++ ((ans.length : Int) :: ans) := by rw [playS_snoc, told_snoc, hst, hs]
          have hsize : (PyFlat.told (playS Dr02.init ds)).length + (ans.length + 1) ≤ 10000000 := by
            have h1 := playS_len_le Dr02.init (ds ++ [c]) rest
            rw [← hcs', htold, List.length_append, List.length_cons] at h1
            omega
          have hca11 : CallsAt K a r0 (segs cs) H11 pa' := by
            rcases hca.ex e410 with h | ⟨u, hu, h1, h2, h3, h4, h⟩
            · exact .inl h
            · have ax : a ≠ x := fun z => by
                rw [z, d10.obj] at hu
                exact h2 _ _ _ (Option.some.inj hu).symm
              exact .inr ⟨u, kp _ _ hu h1 ax h3, h1, h2, hpa.elim (fun z => by rw [z]; exact h3) fun z => z a _ hu h1, h4, h⟩
          refine q_appS (v := .int (ans.length : Int)) hr0' (ev_var rfl) (ev_is (ev_lenL (ev_var (v := .ref r) rfl) (sq_of hr11) rfl) (by rw [iv, List.length_map]; rfl)) (by rw [iv, List.length_map, sizeLine_eq]; omega) (fun H12 e12 => ?_)
          have hr12 : (upd H12 r0 (.lst (iv (PyFlat.told (playS Dr02.init ds)) ++ [.int (ans.length : Int)]))) r = some (.lst (iv ans)) := by
            rw [upd_ne rr0]
            exact e12 _ _ hr11
          refine s_extS upd_same (ev_var rfl) (ev_var (v := .ref r) rfl) hr12 (by rw [List.length_append, iv, iv, List.length_map, List.length_map, sizeLine_eq]; show _ + 1 + _ ≤ _; omega) (fun H13 e13 => ?_)
          have up : ∀ b o, H11 b = some o → b ≠ r0 → (upd H13 r0 (.lst (iv (PyFlat.told (playS Dr02.init ds)) ++ [.int (ans.length : Int)] ++ iv ans))) b = some o := fun b o hb hn => by
            rw [upd_ne hn]
            refine e13 _ _ ?_
            rw [upd_ne hn]
            exact e12 _ _ hb
          refine ⟨ds ++ [c], rest, fa', pa', f', p', _, _, _, _, _, hcs', by rw [List.length_cons] at hm; omega, rfl, ⟨up _ _ d11.obj r0x.symm, up _ _ d11.fn r0f'.symm, up _ _ d11.pt r0p'.symm, d11.ne, d11.wf, d11.v0, d11.len⟩, hst', ?_, r0f', r0p', ?_, ?_⟩
          · rw [upd_same, htold, iv, iv, iv, List.map_append, List.map_cons]
            simp
          · rcases hca11 with h | ⟨u, hu, h1, h2, h3, h4, h⟩
            · exact .inl h
            · exact .inr ⟨u, up _ _ hu h4, h1, h2, h3, h4, h⟩
          · exact tabs_mut ((tabs_mut (t11.ext e12) (e12 _ _ hr0') notbl_lst noext_lst).ext e13) (e13 _ _ upd_same) notbl_lst noext_lst
    · cases rest with
      | nil =>
        rw [List.append_nil] at hcs
        subst hcs
        exact s_ret (ev_var rfl) (fun H5 e5 => q r0 H5 (e5 _ _ (e4 _ _ hr0)))
      | cons c rest =>
        have := of_decide_eq_false hb
        rw [hcs, segs_append, segs_cons, List.length_append, List.length_append] at this
        have : 0 < c.seg.length := by unfold One.seg; exact Nat.succ_pos _
        omega
end
end Sh
namespace Sh
open PySem PySem.Spec PyProof.Rows L2 Evl LamX NdefX
open PySem.W (nsIn findIn codeIn keepIn isFn)
/-- a def whose code object keeps a table, as it stands behind the top -/
def TabF (K : PySem.W.Frag) (x : Str) (st : Stmt) (c Pt : Addr) : Prop :=
  ∃ (f : Addr) (oc : Value) (od : Option Addr) (kV doc pm : Value) (an : Option Addr) (ct : Value) (osl : Array (Option Value)) (oc' : Value) (od' : Option Addr) (vs : Array Value) (osl' : Array (Option Value)), nsIn K mainGlobals x = some (some (.ref f)) ∧
    K.lookup f = some ⟨oc, od, .func (PySem.W.fnOf x x (defArgs st) (defBody st) (defScope st) .none kV doc pm an (.ref c) ct), osl⟩ ∧ codeIn K (.ref c) x = true ∧ keepIn K (.ref f) = true ∧ K.lookup c = some ⟨oc', od', .fields vs, osl'⟩ ∧ vs[11]? = some (.ref Pt) ∧ K.lookup Pt = none
theorem TabF.mk {K : PySem.W.Frag} {x : Str} {st : Stmt} {c Pt f : Addr} {oc : Value} {od : Option Addr} {kV doc pm : Value} {an : Option Addr} {ct : Value} {osl : Array (Option Value)} {oc' : Value} {od' : Option Addr} {vs : Array Value} {osl' : Array (Option Value)} (t1 : nsIn K mainGlobals x = some (some (.ref f)))
    (t2 : K.lookup f = some ⟨oc, od, .func (PySem.W.fnOf x x (defArgs st) (defBody st) (defScope st) .none kV doc pm an (.ref c) ct), osl⟩) (t3 : codeIn K (.ref c) x = true) (t4 : keepIn K (.ref f) = true) (t5 : K.lookup c = some ⟨oc', od', .fields vs, osl'⟩) (t6 : vs[11]? = some (.ref Pt)) (t7 : K.lookup Pt = none) : TabF K x st c Pt :=
  ⟨f, oc, od, kV, doc, pm, an, ct, osl, oc', od', vs, osl', t1, t2, t3, t4, t5, t6, t7⟩
section
variable {K : PySem.W.Frag} {mg : Str → Option Value} {h : Heap}
theorem TabF.hasC {x : Str} {st : Stmt} {ps : List Str} {c Pt : Addr} (d : TabF K x st c Pt) (X : K.In h) (G : h.Ns mainGlobals mg) (b : BindsOk x x st ps) : HasC K mg x st ps c := by
  obtain ⟨f, oc, od, kV, doc, pm, an, ct, osl, _, _, _, _, a, l, cc, k, _⟩ := d
  exact ⟨f, oc, od, kV, doc, pm, an, ct, osl, l, cc, k, PySem.W.mg_of X G a, .all (b kV doc pm an (.ref c) ct)⟩
theorem TabF.tabIn {x : Str} {st : Stmt} {c Pt : Addr} (d : TabF K x st c Pt) : PySem.W.tabIn K x = some (c, Pt) := by
  obtain ⟨f, oc, od, kV, doc, pm, an, ct, osl, oc', od', vs, osl', a, l, cc, k, t5, t6, t7⟩ := d
  unfold PySem.W.tabIn
  rw [a]
  simp only [l]
  show (match K.lookup c with
    | some ⟨_, _, .fields vs, _⟩ => (match (vs[11]? : Option Value) with
      | some (.ref P) => some (c, P)
      | _ => none)
    | _ => none) = _
  rw [t5]
  simp only [t6]
theorem TabF.none {x : Str} {st : Stmt} {c Pt : Addr} (d : TabF K x st c Pt) : K.lookup Pt = none := by
  obtain ⟨f, oc, od, kV, doc, pm, an, ct, osl, oc', od', vs, osl', a, l, cc, k, t5, t6, t7⟩ := d
  exact t7
end
abbrev ROW : PySem.W.OpenSpec := PySem.Challenge.rw_sharedout_s01_answers
theorem fin_of {K : PySem.W.Frag} {mg : Str → Option Value} {A : Adr} {h : Heap} {w : World} {c Pt fa : Addr} (T : Txt K mg A) (hC : HasC K mg "order_by_weight" s_order_by_weight ["weights"] c) (code : PySem.W.CodeHd h c Pt) (hP : h.get? Pt = some { cls := .none, data := .fields #[] }) (nP : K.lookup Pt = none) (hmg : mg "answers" = some (.ref fa)) :
    ∃ (fd : FuncData) (cs : List (Addr × Addr)) (sp : Sp), (∀ p ∈ cs, h.get? p.2 = some { cls := .none, data := .fields #[] }) ∧ (∀ p ∈ cs, K.lookup p.2 = none) ∧ (∀ p ∈ cs, PySem.W.CodeHd h p.1 p.2) ∧ (∀ (s : Shared) (u : Value), BindsTo s fd ⟨[u], []⟩ [("calls", u)]) ∧
      (∀ (H : Hp) (a : Addr) (b : PySem.W.Codec.denoteAll ROW.args) (ns : List Int), PySem.W.Codec.encAll ROW.args b = [.list (ns.map .int)] → PySem.W.Codec.withinAll ROW.args b = true → PySem.W.Codec.app ROW.args ROW.asked b = true → (∀ p ∈ cs, H p.2 = some (.tbl #[])) → SqL K H a (ns.map V.int) →
        sp [.ref a] H (fun v H' => Dw K H' v (ROW.ret.enc (PySem.W.Codec.app ROW.args ROW.f b))) fun _ _ _ => False) ∧
      ∀ base : Heap, K.In base → base.Ns mainGlobals mg → (∀ p ∈ cs, TabB base mg p.1 p.2) → FnOk ROW.prog w K mg base CX0 12 fa fd ["calls"] sp := by
  obtain ⟨f, fd, F, b0, g⟩ := T.h_answers
  have hf : f = fa := by
    rw [hmg] at g
    cases g
    rfl
  subst hf
  have one : ∀ {P : Addr × Addr → Prop}, P (c, Pt) → ∀ p ∈ [(c, Pt)], P p := fun hp p hm => by
    rw [List.mem_singleton.mp hm]
    exact hp
  refine ⟨fd, [(c, Pt)], sp_answers K [(Pt, lamQ)], one hP, one nP, one code, fun s u => ?_, fun H a b ns hen hwi has hT hS => ?_, fun base hK hG hTB => ?_⟩
  · obtain ⟨oc, od, kV, doc, pm, an, cdv, ct, osl, rfl, _⟩ := F.ex
    exact .of_eq rfl
  · obtain ⟨l, u⟩ := b
    have hl : l = ns := by
      have e1 : PySem.W.WData.list (l.map .int) = .list (ns.map .int) := (List.cons.inj hen).1
      have e2 := PySem.W.WData.list.inj e1
      exact (List.map_inj_right (fun x y e => PySem.W.WData.int.inj e)).mp e2
    subst hl
    have hin : ∀ y ∈ l, 0 ≤ y ∧ y < 4294967296 := by
      have h1 : PySem.W.Codec.within (.list 0 1590 (.int 0 4294967295)) l = true := (Bool.and_eq_true_iff.mp hwi).1
      have h2 : (l.all fun z => decide ((0 : Int) ≤ z) && decide (z ≤ (4294967295 : Int))) = true := (Bool.and_eq_true_iff.mp h1).2
      intro y hy
      have h3 := List.all_eq_true.mp h2 y hy
      rw [Bool.and_eq_true, decide_eq_true_eq, decide_eq_true_eq] at h3
      exact ⟨h3.1, Int.lt_of_le_sub_one h3.2⟩
    obtain ⟨cs, c1, c2, c3, c4, c5, c6⟩ := asked_of hin has
    have hnv : l.map V.int = nv (segs cs) := by
      rw [← c4, nv]
      have e := cast_nn fun y hy => (hin y hy).1
      conv => lhs; rw [← e]
      rw [List.map_map]
      rfl
    refine ⟨a, cs, rfl, by rw [← hnv]; exact hS, c1, by rw [← c5]; exact c6, fun p hp => ?_, fun r H2 h2 => ?_⟩
    · rw [List.mem_singleton.mp hp]
      exact TabS.nil (hT (c, Pt) (List.mem_singleton.mpr rfl))
    · show Dw K H2 (.ref r) (.list ((PyDr02.answers l).map PySem.W.WData.int))
      rw [c5]
      exact .lst (sq_of h2) (dw_ints _)
  · exact fn_answers T F hC (hTB (c, Pt) (List.mem_singleton.mpr rfl)) (List.mem_singleton.mpr rfl) (fun p hp _ => by rw [List.mem_singleton.mp hp]) 3
end Sh
namespace Sh
open PySem PySem.Spec PyProof.Rows L2 Evl LamX NdefX
open PySem.W (nsIn findIn codeIn keepIn isFn)
theorem txt_mk {K : PySem.W.Frag} {h : Heap} {mg : Str → Option Value} {a_Desk a_TABLE_LENGTHS a_WHOLES_OF_CALL a_ROWS_OF_CALL : Addr} (X : K.In h) (G : h.Ns mainGlobals mg)
    (b_all : nsIn K mainGlobals "all" = some none)
    (b_enumerate : nsIn K mainGlobals "enumerate" = some none)
    (b_len : nsIn K mainGlobals "len" = some none)
    (b_list : nsIn K mainGlobals "list" = some none)
    (b_max : nsIn K mainGlobals "max" = some none)
    (b_min : nsIn K mainGlobals "min" = some none)
    (b_range : nsIn K mainGlobals "range" = some none)
    (b_sorted : nsIn K mainGlobals "sorted" = some none)
    (b_sum : nsIn K mainGlobals "sum" = some none)
    (b_tuple : nsIn K mainGlobals "tuple" = some none)
    (b_zip : nsIn K mainGlobals "zip" = some none)
    (c_PARTS_OF_ONE : IntF K "PARTS_OF_ONE" (60))
    (c_TABLE_LENGTHS : TupF K "TABLE_LENGTHS" a_TABLE_LENGTHS [2, 4, 8, 16, 32])
    (c_MOST_THINGS : IntF K "MOST_THINGS" (5))
    (c_MOST_HANDED : IntF K "MOST_HANDED" (20000))
    (c_MOST_POINTS : IntF K "MOST_POINTS" (20))
    (c_MOST_WEIGHT : IntF K "MOST_WEIGHT" (1000))
    (c_BAD_NUMBERS : IntF K "BAD_NUMBERS" (-1))
    (c_BAD_FUNCTION : IntF K "BAD_FUNCTION" (-6))
    (c_TELL : IntF K "TELL" (0))
    (c_COVER : IntF K "COVER" (1))
    (c_ORDER : IntF K "ORDER" (2))
    (c_GREED : IntF K "GREED" (3))
    (c_CORNERS : IntF K "CORNERS" (4))
    (c_IS_BASE : IntF K "IS_BASE" (5))
    (c_BASE : IntF K "BASE" (6))
    (c_TIGHT : IntF K "TIGHT" (7))
    (c_AROUND : IntF K "AROUND" (8))
    (c_ROOM : IntF K "ROOM" (9))
    (c_MOVE : IntF K "MOVE" (10))
    (c_FAIREST : IntF K "FAIREST" (11))
    (c_WHOLES_OF_CALL : TupF K "WHOLES_OF_CALL" a_WHOLES_OF_CALL [0, 1, 0, 0, 0, 0, 0, 0, 1, 2, 2, 0, 0])
    (c_ROWS_OF_CALL : TupF K "ROWS_OF_CALL" a_ROWS_OF_CALL [1, 1, 1, 1, 0, 1, 0, 0, 0, 0, 0, 0, 1])
    (g_Desk : nsIn K mainGlobals "Desk" = some (some (.ref a_Desk)))
    (pg_Desk : PySem.W.plainGet K a_Desk Str.empty = true)
    (hd_Desk : PySem.W.hasDictIn K a_Desk = true)
    (po_Desk : PySem.W.plainOver K a_Desk = true)
    (sa_Desk : findIn K (.ref a_Desk) "__setattr__" = some (some (.builtin "object.__setattr__")))
    (mk_Desk : PySem.W.makesIn K a_Desk = true)
    (kc_Desk : keepIn K (.ref a_Desk) = true)
    (na_Desk_n : findIn K (.ref a_Desk) "n" = some none)
    (na_Desk_function : findIn K (.ref a_Desk) "function" = some none)
    (na_Desk_parts : findIn K (.ref a_Desk) "parts" = some none)
    (h_set_of : DefF K "set_of" s_set_of)
    (h_has : DefF K "has" s_has)
    (h_things_up_to : DefF K "things_up_to" s_things_up_to)
    (h_size_of : DefF K "size_of" s_size_of)
    (h_together : DefF K "together" s_together)
    (h_brings : DefF K "brings" s_brings)
    (h_never_brings_more : DefF K "never_brings_more" s_never_brings_more)
    (h_is_of_this_kind : DefF K "is_of_this_kind" s_is_of_this_kind)
    (h_weight_met : DefF K "weight_met" s_weight_met)
    (h_base_by_order : DefF K "base_by_order" s_base_by_order)
    (h_order_by_weight : DefF K "order_by_weight" s_order_by_weight)
    (h_base_by_greed : DefF K "base_by_greed" s_base_by_greed)
    (h_worth_of : DefF K "worth_of" s_worth_of)
    (h_orders_of : DefF K "orders_of" s_orders_of)
    (h_different_corners : DefF K "different_corners" s_different_corners)
    (h_lowest_with_too_much : DefF K "lowest_with_too_much" s_lowest_with_too_much)
    (h_in_parts : DefF K "in_parts" s_in_parts)
    (h_as_fraction : DefF K "as_fraction" s_as_fraction)
    (h_as_fractions : DefF K "as_fractions" s_as_fractions)
    (h_left_to : DefF K "left_to" s_left_to)
    (h_tight_sets : DefF K "tight_sets" s_tight_sets)
    (h_common_to_tight_sets : DefF K "common_to_tight_sets" s_common_to_tight_sets)
    (h_room_between : DefF K "room_between" s_room_between)
    (h_means_beside : DefF K "means_beside" s_means_beside)
    (h_all_with_mean : DefF K "all_with_mean" s_all_with_mean)
    (h_fairest_parts : DefF K "fairest_parts" s_fairest_parts)
    (h_whole : DefF K "whole" s_whole)
    (h_wholes : DefF K "wholes" s_wholes)
    (h_is_within : DefF K "is_within" s_is_within)
    (h_is_points : DefF K "is_points" s_is_points)
    (h_Desk_init : MethF K a_Desk "__init__" "Desk.__init__" s_Desk_init)
    (h_Desk_take_function : MethF K a_Desk "take_function" "Desk.take_function" s_Desk_take_function)
    (h_Desk_takes_row : MethF K a_Desk "takes_row" "Desk.takes_row" s_Desk_takes_row)
    (h_Desk_is_thing : MethF K a_Desk "is_thing" "Desk.is_thing" s_Desk_is_thing)
    (h_Desk_takes_pair : MethF K a_Desk "takes_pair" "Desk.takes_pair" s_Desk_takes_pair)
    (h_Desk_tell : MethF K a_Desk "tell" "Desk.tell" s_Desk_tell)
    (h_Desk_cover : MethF K a_Desk "cover" "Desk.cover" s_Desk_cover)
    (h_Desk_order : MethF K a_Desk "order" "Desk.order" s_Desk_order)
    (h_Desk_greed : MethF K a_Desk "greed" "Desk.greed" s_Desk_greed)
    (h_Desk_corners : MethF K a_Desk "corners" "Desk.corners" s_Desk_corners)
    (h_Desk_is_base : MethF K a_Desk "is_base" "Desk.is_base" s_Desk_is_base)
    (h_Desk_base : MethF K a_Desk "base" "Desk.base" s_Desk_base)
    (h_Desk_tight : MethF K a_Desk "tight" "Desk.tight" s_Desk_tight)
    (h_Desk_around : MethF K a_Desk "around" "Desk.around" s_Desk_around)
    (h_Desk_room : MethF K a_Desk "room" "Desk.room" s_Desk_room)
    (h_Desk_move : MethF K a_Desk "move" "Desk.move" s_Desk_move)
    (h_Desk_fairest : MethF K a_Desk "fairest" "Desk.fairest" s_Desk_fairest)
    (h_Desk_stretch : MethF K a_Desk "stretch" "Desk.stretch" s_Desk_stretch)
    (h_answer_of : DefF K "answer_of" s_answer_of)
    (h_answers : DefF K "answers" s_answers) : Txt K mg ⟨a_Desk, a_TABLE_LENGTHS, a_WHOLES_OF_CALL, a_ROWS_OF_CALL⟩ where
  b_all := PySem.W.mg_none_of X G b_all
  b_enumerate := PySem.W.mg_none_of X G b_enumerate
  b_len := PySem.W.mg_none_of X G b_len
  b_list := PySem.W.mg_none_of X G b_list
  b_max := PySem.W.mg_none_of X G b_max
  b_min := PySem.W.mg_none_of X G b_min
  b_range := PySem.W.mg_none_of X G b_range
  b_sorted := PySem.W.mg_none_of X G b_sorted
  b_sum := PySem.W.mg_none_of X G b_sum
  b_tuple := PySem.W.mg_none_of X G b_tuple
  b_zip := PySem.W.mg_none_of X G b_zip
  c_PARTS_OF_ONE := c_PARTS_OF_ONE.at_ X G
  c_TABLE_LENGTHS := c_TABLE_LENGTHS.at_ X G
  t_TABLE_LENGTHS := c_TABLE_LENGTHS.sq
  o_TABLE_LENGTHS := c_TABLE_LENGTHS.ob
  c_MOST_THINGS := c_MOST_THINGS.at_ X G
  c_MOST_HANDED := c_MOST_HANDED.at_ X G
  c_MOST_POINTS := c_MOST_POINTS.at_ X G
  c_MOST_WEIGHT := c_MOST_WEIGHT.at_ X G
  c_BAD_NUMBERS := c_BAD_NUMBERS.at_ X G
  c_BAD_FUNCTION := c_BAD_FUNCTION.at_ X G
  c_TELL := c_TELL.at_ X G
  c_COVER := c_COVER.at_ X G
  c_ORDER := c_ORDER.at_ X G
  c_GREED := c_GREED.at_ X G
  c_CORNERS := c_CORNERS.at_ X G
  c_IS_BASE := c_IS_BASE.at_ X G
  c_BASE := c_BASE.at_ X G
  c_TIGHT := c_TIGHT.at_ X G
  c_AROUND := c_AROUND.at_ X G
  c_ROOM := c_ROOM.at_ X G
  c_MOVE := c_MOVE.at_ X G
  c_FAIREST := c_FAIREST.at_ X G
  c_WHOLES_OF_CALL := c_WHOLES_OF_CALL.at_ X G
  t_WHOLES_OF_CALL := c_WHOLES_OF_CALL.sq
  o_WHOLES_OF_CALL := c_WHOLES_OF_CALL.ob
  c_ROWS_OF_CALL := c_ROWS_OF_CALL.at_ X G
  t_ROWS_OF_CALL := c_ROWS_OF_CALL.sq
  o_ROWS_OF_CALL := c_ROWS_OF_CALL.ob
  cl_Desk := ⟨pg_Desk, hd_Desk, po_Desk, sa_Desk⟩
  g_Desk := PySem.W.mg_of X G g_Desk
  mk_Desk := mk_Desk
  kc_Desk := kc_Desk
  na_Desk_n := na_Desk_n
  na_Desk_function := na_Desk_function
  na_Desk_parts := na_Desk_parts
  h_set_of := h_set_of.has X G fun _ _ _ _ _ _ us hl => match us, hl with | [_], _ => rfl
  h_has := h_has.has X G fun _ _ _ _ _ _ us hl => match us, hl with | [_, _], _ => rfl
  h_things_up_to := h_things_up_to.has X G fun _ _ _ _ _ _ us hl => match us, hl with | [_], _ => rfl
  h_size_of := h_size_of.has X G fun _ _ _ _ _ _ us hl => match us, hl with | [_], _ => rfl
  h_together := h_together.has X G fun _ _ _ _ _ _ us hl => match us, hl with | [_, _], _ => rfl
  h_brings := h_brings.has X G fun _ _ _ _ _ _ us hl => match us, hl with | [_, _, _], _ => rfl
  h_never_brings_more := h_never_brings_more.has X G fun _ _ _ _ _ _ us hl => match us, hl with | [_, _, _], _ => rfl
  h_is_of_this_kind := h_is_of_this_kind.has X G fun _ _ _ _ _ _ us hl => match us, hl with | [_, _], _ => rfl
  h_weight_met := h_weight_met.has X G fun _ _ _ _ _ _ us hl => match us, hl with | [_, _], _ => rfl
  h_base_by_order := h_base_by_order.has X G fun _ _ _ _ _ _ us hl => match us, hl with | [_, _], _ => rfl
  h_order_by_weight := h_order_by_weight.has X G fun _ _ _ _ _ _ us hl => match us, hl with | [_], _ => rfl
  h_base_by_greed := h_base_by_greed.has X G fun _ _ _ _ _ _ us hl => match us, hl with | [_, _], _ => rfl
  h_worth_of := h_worth_of.has X G fun _ _ _ _ _ _ us hl => match us, hl with | [_, _], _ => rfl
  h_orders_of := h_orders_of.has X G fun _ _ _ _ _ _ us hl => match us, hl with | [_], _ => rfl
  h_different_corners := h_different_corners.has X G fun _ _ _ _ _ _ us hl => match us, hl with | [_, _], _ => rfl
  h_lowest_with_too_much := h_lowest_with_too_much.has X G fun _ _ _ _ _ _ us hl => match us, hl with | [_, _], _ => rfl
  h_in_parts := h_in_parts.has X G fun _ _ _ _ _ _ us hl => match us, hl with | [_], _ => rfl
  h_as_fraction := h_as_fraction.has X G fun _ _ _ _ _ _ us hl => match us, hl with | [_], _ => rfl
  h_as_fractions := h_as_fractions.has X G fun _ _ _ _ _ _ us hl => match us, hl with | [_], _ => rfl
  h_left_to := h_left_to.has X G fun _ _ _ _ _ _ us hl => match us, hl with | [_, _, _], _ => rfl
  h_tight_sets := h_tight_sets.has X G fun _ _ _ _ _ _ us hl => match us, hl with | [_, _], _ => rfl
  h_common_to_tight_sets := h_common_to_tight_sets.has X G fun _ _ _ _ _ _ us hl => match us, hl with | [_, _, _], _ => rfl
  h_room_between := h_room_between.has X G fun _ _ _ _ _ _ us hl => match us, hl with | [_, _, _, _], _ => rfl
  h_means_beside := h_means_beside.has X G fun _ _ _ _ _ _ us hl => match us, hl with | [_, _], _ => rfl
  h_all_with_mean := h_all_with_mean.has X G fun _ _ _ _ _ _ us hl => match us, hl with | [_, _], _ => rfl
  h_fairest_parts := h_fairest_parts.has X G fun _ _ _ _ _ _ us hl => match us, hl with | [_, _], _ => rfl
  h_whole := h_whole.has X G fun _ _ _ _ _ _ us hl => match us, hl with | [_], _ => rfl
  h_wholes := h_wholes.has X G fun _ _ _ _ _ _ us hl => match us, hl with | [_], _ => rfl
  h_is_within := h_is_within.has X G fun _ _ _ _ _ _ us hl => match us, hl with | [_, _], _ => rfl
  h_is_points := h_is_points.has X G fun _ _ _ _ _ _ us hl => match us, hl with | [_, _], _ => rfl
  h_Desk_init := h_Desk_init.has fun _ _ _ _ _ _ us hl => match us, hl with | [_], _ => rfl
  h_Desk_take_function := h_Desk_take_function.has fun _ _ _ _ _ _ us hl => match us, hl with | [_, _, _], _ => rfl
  h_Desk_takes_row := h_Desk_takes_row.has fun _ _ _ _ _ _ us hl => match us, hl with | [_, _], _ => rfl
  h_Desk_is_thing := h_Desk_is_thing.has fun _ _ _ _ _ _ us hl => match us, hl with | [_, _], _ => rfl
  h_Desk_takes_pair := h_Desk_takes_pair.has fun _ _ _ _ _ _ us hl => match us, hl with | [_, _, _], _ => rfl
  h_Desk_tell := h_Desk_tell.has fun _ _ _ _ _ _ us hl => match us, hl with | [_, _], _ => rfl
  h_Desk_cover := h_Desk_cover.has fun _ _ _ _ _ _ us hl => match us, hl with | [_, _, _], _ => rfl
  h_Desk_order := h_Desk_order.has fun _ _ _ _ _ _ us hl => match us, hl with | [_, _], _ => rfl
  h_Desk_greed := h_Desk_greed.has fun _ _ _ _ _ _ us hl => match us, hl with | [_, _], _ => rfl
  h_Desk_corners := h_Desk_corners.has fun _ _ _ _ _ _ us hl => match us, hl with | [_], _ => rfl
  h_Desk_is_base := h_Desk_is_base.has fun _ _ _ _ _ _ us hl => match us, hl with | [_, _], _ => rfl
  h_Desk_base := h_Desk_base.has fun _ _ _ _ _ _ us hl => match us, hl with | [_], _ => rfl
  h_Desk_tight := h_Desk_tight.has fun _ _ _ _ _ _ us hl => match us, hl with | [_], _ => rfl
  h_Desk_around := h_Desk_around.has fun _ _ _ _ _ _ us hl => match us, hl with | [_, _], _ => rfl
  h_Desk_room := h_Desk_room.has fun _ _ _ _ _ _ us hl => match us, hl with | [_, _, _], _ => rfl
  h_Desk_move := h_Desk_move.has fun _ _ _ _ _ _ us hl => match us, hl with | [_, _, _], _ => rfl
  h_Desk_fairest := h_Desk_fairest.has fun _ _ _ _ _ _ us hl => match us, hl with | [_], _ => rfl
  h_Desk_stretch := h_Desk_stretch.has fun _ _ _ _ _ _ us hl => match us, hl with | [_, _], _ => rfl
  h_answer_of := h_answer_of.has X G fun _ _ _ _ _ _ us hl => match us, hl with | [_, _, _, _], _ => rfl
  h_answers := h_answers.has X G fun _ _ _ _ _ _ us hl => match us, hl with | [_], _ => rfl
end Sh
open PySem PySem.W PyProof.Rows
theorem Sh.use_txt {K : PySem.W.Frag} {mg : Str → Option Value} {A : Sh.Adr} {G : Prop} (t : Sh.Txt K mg A) (k : Sh.Txt K mg A → G) : G := k t
theorem Sh.use_tab {K : PySem.W.Frag} {h : Heap} {x : Str} {st : Stmt} {c Pt : Addr} {G : Prop} (_ : K.In h) (t : Sh.TabF K x st c Pt) (k : Sh.TabF K x st c Pt → G) : G := k t
theorem PySem.Challenge.cw_sharedout_s01_answers_holds : PySem.Challenge.rw_sharedout_s01_answers.Holds := by
  w_on; k_headS; (case hw => exact ⟨[.list [.int 4]], by decide +kernel, by decide +kernel⟩)
  k_fillS
  refine Sh.walk_specT (r := PySem.Challenge.rw_sharedout_s01_answers) (k := 12) (x := "calls") rfl (by decide +kernel) ⟨rfl, by decide, by decide⟩ (fun w h Y => PySem.W.kIn_of Y) ?F
  intro w mg mb mean fa h Y KX T hmg
  refine' Sh.use_txt (Sh.txt_mk KX T.g ?b_all ?b_enumerate ?b_len ?b_list ?b_max ?b_min ?b_range ?b_sorted ?b_sum ?b_tuple ?b_zip ?c_PARTS_OF_ONE ?c_TABLE_LENGTHS ?c_MOST_THINGS ?c_MOST_HANDED ?c_MOST_POINTS ?c_MOST_WEIGHT ?c_BAD_NUMBERS ?c_BAD_FUNCTION ?c_TELL ?c_COVER ?c_ORDER ?c_GREED ?c_CORNERS ?c_IS_BASE ?c_BASE ?c_TIGHT ?c_AROUND ?c_ROOM ?c_MOVE ?c_FAIREST ?c_WHOLES_OF_CALL ?c_ROWS_OF_CALL ?g_Desk ?pg_Desk ?hd_Desk ?po_Desk ?sa_Desk ?mk_Desk ?kc_Desk ?na_Desk_n ?na_Desk_function ?na_Desk_parts ?h_set_of ?h_has ?h_things_up_to ?h_size_of ?h_together ?h_brings ?h_never_brings_more ?h_is_of_this_kind ?h_weight_met ?h_base_by_order ?h_order_by_weight ?h_base_by_greed ?h_worth_of ?h_orders_of ?h_different_corners ?h_lowest_with_too_much ?h_in_parts ?h_as_fraction ?h_as_fractions ?h_left_to ?h_tight_sets ?h_common_to_tight_sets ?h_room_between ?h_means_beside ?h_all_with_mean ?h_fairest_parts ?h_whole ?h_wholes ?h_is_within ?h_is_points ?h_Desk_init ?h_Desk_take_function ?h_Desk_takes_row ?h_Desk_is_thing ?h_Desk_takes_pair ?h_Desk_tell ?h_Desk_cover ?h_Desk_order ?h_Desk_greed ?h_Desk_corners ?h_Desk_is_base ?h_Desk_base ?h_Desk_tight ?h_Desk_around ?h_Desk_room ?h_Desk_move ?h_Desk_fairest ?h_Desk_stretch ?h_answer_of ?h_answers) ?rest
  (case b_all => (k_is))
  (case b_enumerate => (k_is))
  (case b_len => (k_is))
  (case b_list => (k_is))
  (case b_max => (k_is))
  (case b_min => (k_is))
  (case b_range => (k_is))
  (case b_sorted => (k_is))
  (case b_sum => (k_is))
  (case b_tuple => (k_is))
  (case b_zip => (k_is))
  (case c_PARTS_OF_ONE => (refine' Sh.IntF.mk ?t1; (case t1 => k_is)))
  (case c_TABLE_LENGTHS => (refine' Sh.TupF.mk ?t1 ?t2 ?t3 ?t4 ?t5 ?t6 ?t7; (case t1 => k_is); (case t2 => k_is); (case t3 => rfl); (case t4 => rfl); (case t5 => decide); (case t6 => exact (.cons ⟨_, rfl⟩ (.cons ⟨_, rfl⟩ (.cons ⟨_, rfl⟩ (.cons ⟨_, rfl⟩ (.cons ⟨_, rfl⟩ .nil)))))); (case t7 => rfl)))
  (case c_MOST_THINGS => (refine' Sh.IntF.mk ?t1; (case t1 => k_is)))
  (case c_MOST_HANDED => (refine' Sh.IntF.mk ?t1; (case t1 => k_is)))
  (case c_MOST_POINTS => (refine' Sh.IntF.mk ?t1; (case t1 => k_is)))
  (case c_MOST_WEIGHT => (refine' Sh.IntF.mk ?t1; (case t1 => k_is)))
  (case c_BAD_NUMBERS => (refine' Sh.IntF.mk ?t1; (case t1 => k_is)))
  (case c_BAD_FUNCTION => (refine' Sh.IntF.mk ?t1; (case t1 => k_is)))
  (case c_TELL => (refine' Sh.IntF.mk ?t1; (case t1 => k_is)))
  (case c_COVER => (refine' Sh.IntF.mk ?t1; (case t1 => k_is)))
  (case c_ORDER => (refine' Sh.IntF.mk ?t1; (case t1 => k_is)))
  (case c_GREED => (refine' Sh.IntF.mk ?t1; (case t1 => k_is)))
  (case c_CORNERS => (refine' Sh.IntF.mk ?t1; (case t1 => k_is)))
  (case c_IS_BASE => (refine' Sh.IntF.mk ?t1; (case t1 => k_is)))
  (case c_BASE => (refine' Sh.IntF.mk ?t1; (case t1 => k_is)))
  (case c_TIGHT => (refine' Sh.IntF.mk ?t1; (case t1 => k_is)))
  (case c_AROUND => (refine' Sh.IntF.mk ?t1; (case t1 => k_is)))
  (case c_ROOM => (refine' Sh.IntF.mk ?t1; (case t1 => k_is)))
  (case c_MOVE => (refine' Sh.IntF.mk ?t1; (case t1 => k_is)))
  (case c_FAIREST => (refine' Sh.IntF.mk ?t1; (case t1 => k_is)))
  (case c_WHOLES_OF_CALL => (refine' Sh.TupF.mk ?t1 ?t2 ?t3 ?t4 ?t5 ?t6 ?t7; (case t1 => k_is); (case t2 => k_is); (case t3 => rfl); (case t4 => rfl); (case t5 => decide); (case t6 => exact (.cons ⟨_, rfl⟩ (.cons ⟨_, rfl⟩ (.cons ⟨_, rfl⟩ (.cons ⟨_, rfl⟩ (.cons ⟨_, rfl⟩ (.cons ⟨_, rfl⟩ (.cons ⟨_, rfl⟩ (.cons ⟨_, rfl⟩ (.cons ⟨_, rfl⟩ (.cons ⟨_, rfl⟩ (.cons ⟨_, rfl⟩ (.cons ⟨_, rfl⟩ (.cons ⟨_, rfl⟩ .nil)))))))))))))); (case t7 => rfl)))
  (case c_ROWS_OF_CALL => (refine' Sh.TupF.mk ?t1 ?t2 ?t3 ?t4 ?t5 ?t6 ?t7; (case t1 => k_is); (case t2 => k_is); (case t3 => rfl); (case t4 => rfl); (case t5 => decide); (case t6 => exact (.cons ⟨_, rfl⟩ (.cons ⟨_, rfl⟩ (.cons ⟨_, rfl⟩ (.cons ⟨_, rfl⟩ (.cons ⟨_, rfl⟩ (.cons ⟨_, rfl⟩ (.cons ⟨_, rfl⟩ (.cons ⟨_, rfl⟩ (.cons ⟨_, rfl⟩ (.cons ⟨_, rfl⟩ (.cons ⟨_, rfl⟩ (.cons ⟨_, rfl⟩ (.cons ⟨_, rfl⟩ .nil)))))))))))))); (case t7 => rfl)))
  (case g_Desk => (k_is))
  (case pg_Desk => (k_is))
  (case hd_Desk => (k_is))
  (case po_Desk => (k_is))
  (case sa_Desk => (k_is))
  (case mk_Desk => (k_is))
  (case kc_Desk => (k_is))
  (case na_Desk_n => (k_is))
  (case na_Desk_function => (k_is))
  (case na_Desk_parts => (k_is))
  (case h_set_of => (refine' Sh.DefF.mk ?t1 ?t2 ?t3 ?t4; (case t1 => k_is); (case t2 => k_is); (case t3 => k_is); (case t4 => k_is)))
  (case h_has => (refine' Sh.DefF.mk ?t1 ?t2 ?t3 ?t4; (case t1 => k_is); (case t2 => k_is); (case t3 => k_is); (case t4 => k_is)))
  (case h_things_up_to => (refine' Sh.DefF.mk ?t1 ?t2 ?t3 ?t4; (case t1 => k_is); (case t2 => k_is); (case t3 => k_is); (case t4 => k_is)))
  (case h_size_of => (refine' Sh.DefF.mk ?t1 ?t2 ?t3 ?t4; (case t1 => k_is); (case t2 => k_is); (case t3 => k_is); (case t4 => k_is)))
  (case h_together => (refine' Sh.DefF.mk ?t1 ?t2 ?t3 ?t4; (case t1 => k_is); (case t2 => k_is); (case t3 => k_is); (case t4 => k_is)))
  (case h_brings => (refine' Sh.DefF.mk ?t1 ?t2 ?t3 ?t4; (case t1 => k_is); (case t2 => k_is); (case t3 => k_is); (case t4 => k_is)))
  (case h_never_brings_more => (refine' Sh.DefF.mk ?t1 ?t2 ?t3 ?t4; (case t1 => k_is); (case t2 => k_is); (case t3 => k_is); (case t4 => k_is)))
  (case h_is_of_this_kind => (refine' Sh.DefF.mk ?t1 ?t2 ?t3 ?t4; (case t1 => k_is); (case t2 => k_is); (case t3 => k_is); (case t4 => k_is)))
  (case h_weight_met => (refine' Sh.DefF.mk ?t1 ?t2 ?t3 ?t4; (case t1 => k_is); (case t2 => k_is); (case t3 => k_is); (case t4 => k_is)))
  (case h_base_by_order => (refine' Sh.DefF.mk ?t1 ?t2 ?t3 ?t4; (case t1 => k_is); (case t2 => k_is); (case t3 => k_is); (case t4 => k_is)))
  (case h_order_by_weight => (refine' Sh.DefF.mk ?t1 ?t2 ?t3 ?t4; (case t1 => k_is); (case t2 => k_is); (case t3 => k_is); (case t4 => k_is)))
  (case h_base_by_greed => (refine' Sh.DefF.mk ?t1 ?t2 ?t3 ?t4; (case t1 => k_is); (case t2 => k_is); (case t3 => k_is); (case t4 => k_is)))
  (case h_worth_of => (refine' Sh.DefF.mk ?t1 ?t2 ?t3 ?t4; (case t1 => k_is); (case t2 => k_is); (case t3 => k_is); (case t4 => k_is)))
  (case h_orders_of => (refine' Sh.DefF.mk ?t1 ?t2 ?t3 ?t4; (case t1 => k_is); (case t2 => k_is); (case t3 => k_is); (case t4 => k_is)))
  (case h_different_corners => (refine' Sh.DefF.mk ?t1 ?t2 ?t3 ?t4; (case t1 => k_is); (case t2 => k_is); (case t3 => k_is); (case t4 => k_is)))
  (case h_lowest_with_too_much => (refine' Sh.DefF.mk ?t1 ?t2 ?t3 ?t4; (case t1 => k_is); (case t2 => k_is); (case t3 => k_is); (case t4 => k_is)))
  (case h_in_parts => (refine' Sh.DefF.mk ?t1 ?t2 ?t3 ?t4; (case t1 => k_is); (case t2 => k_is); (case t3 => k_is); (case t4 => k_is)))
  (case h_as_fraction => (refine' Sh.DefF.mk ?t1 ?t2 ?t3 ?t4; (case t1 => k_is); (case t2 => k_is); (case t3 => k_is); (case t4 => k_is)))
  (case h_as_fractions => (refine' Sh.DefF.mk ?t1 ?t2 ?t3 ?t4; (case t1 => k_is); (case t2 => k_is); (case t3 => k_is); (case t4 => k_is)))
  (case h_left_to => (refine' Sh.DefF.mk ?t1 ?t2 ?t3 ?t4; (case t1 => k_is); (case t2 => k_is); (case t3 => k_is); (case t4 => k_is)))
  (case h_tight_sets => (refine' Sh.DefF.mk ?t1 ?t2 ?t3 ?t4; (case t1 => k_is); (case t2 => k_is); (case t3 => k_is); (case t4 => k_is)))
  (case h_common_to_tight_sets => (refine' Sh.DefF.mk ?t1 ?t2 ?t3 ?t4; (case t1 => k_is); (case t2 => k_is); (case t3 => k_is); (case t4 => k_is)))
  (case h_room_between => (refine' Sh.DefF.mk ?t1 ?t2 ?t3 ?t4; (case t1 => k_is); (case t2 => k_is); (case t3 => k_is); (case t4 => k_is)))
  (case h_means_beside => (refine' Sh.DefF.mk ?t1 ?t2 ?t3 ?t4; (case t1 => k_is); (case t2 => k_is); (case t3 => k_is); (case t4 => k_is)))
  (case h_all_with_mean => (refine' Sh.DefF.mk ?t1 ?t2 ?t3 ?t4; (case t1 => k_is); (case t2 => k_is); (case t3 => k_is); (case t4 => k_is)))
  (case h_fairest_parts => (refine' Sh.DefF.mk ?t1 ?t2 ?t3 ?t4; (case t1 => k_is); (case t2 => k_is); (case t3 => k_is); (case t4 => k_is)))
  (case h_whole => (refine' Sh.DefF.mk ?t1 ?t2 ?t3 ?t4; (case t1 => k_is); (case t2 => k_is); (case t3 => k_is); (case t4 => k_is)))
  (case h_wholes => (refine' Sh.DefF.mk ?t1 ?t2 ?t3 ?t4; (case t1 => k_is); (case t2 => k_is); (case t3 => k_is); (case t4 => k_is)))
  (case h_is_within => (refine' Sh.DefF.mk ?t1 ?t2 ?t3 ?t4; (case t1 => k_is); (case t2 => k_is); (case t3 => k_is); (case t4 => k_is)))
  (case h_is_points => (refine' Sh.DefF.mk ?t1 ?t2 ?t3 ?t4; (case t1 => k_is); (case t2 => k_is); (case t3 => k_is); (case t4 => k_is)))
  (case h_Desk_init => (refine' Sh.MethF.mk ?t1 ?t0 ?t2 ?t3 ?t4; (case t1 => k_is); (case t0 => k_is); (case t2 => k_is); (case t3 => k_is); (case t4 => k_is)))
  (case h_Desk_take_function => (refine' Sh.MethF.mk ?t1 ?t0 ?t2 ?t3 ?t4; (case t1 => k_is); (case t0 => k_is); (case t2 => k_is); (case t3 => k_is); (case t4 => k_is)))
  (case h_Desk_takes_row => (refine' Sh.MethF.mk ?t1 ?t0 ?t2 ?t3 ?t4; (case t1 => k_is); (case t0 => k_is); (case t2 => k_is); (case t3 => k_is); (case t4 => k_is)))
  (case h_Desk_is_thing => (refine' Sh.MethF.mk ?t1 ?t0 ?t2 ?t3 ?t4; (case t1 => k_is); (case t0 => k_is); (case t2 => k_is); (case t3 => k_is); (case t4 => k_is)))
  (case h_Desk_takes_pair => (refine' Sh.MethF.mk ?t1 ?t0 ?t2 ?t3 ?t4; (case t1 => k_is); (case t0 => k_is); (case t2 => k_is); (case t3 => k_is); (case t4 => k_is)))
  (case h_Desk_tell => (refine' Sh.MethF.mk ?t1 ?t0 ?t2 ?t3 ?t4; (case t1 => k_is); (case t0 => k_is); (case t2 => k_is); (case t3 => k_is); (case t4 => k_is)))
  (case h_Desk_cover => (refine' Sh.MethF.mk ?t1 ?t0 ?t2 ?t3 ?t4; (case t1 => k_is); (case t0 => k_is); (case t2 => k_is); (case t3 => k_is); (case t4 => k_is)))
  (case h_Desk_order => (refine' Sh.MethF.mk ?t1 ?t0 ?t2 ?t3 ?t4; (case t1 => k_is); (case t0 => k_is); (case t2 => k_is); (case t3 => k_is); (case t4 => k_is)))
  (case h_Desk_greed => (refine' Sh.MethF.mk ?t1 ?t0 ?t2 ?t3 ?t4; (case t1 => k_is); (case t0 => k_is); (case t2 => k_is); (case t3 => k_is); (case t4 => k_is)))
  (case h_Desk_corners => (refine' Sh.MethF.mk ?t1 ?t0 ?t2 ?t3 ?t4; (case t1 => k_is); (case t0 => k_is); (case t2 => k_is); (case t3 => k_is); (case t4 => k_is)))
  (case h_Desk_is_base => (refine' Sh.MethF.mk ?t1 ?t0 ?t2 ?t3 ?t4; (case t1 => k_is); (case t0 => k_is); (case t2 => k_is); (case t3 => k_is); (case t4 => k_is)))
  (case h_Desk_base => (refine' Sh.MethF.mk ?t1 ?t0 ?t2 ?t3 ?t4; (case t1 => k_is); (case t0 => k_is); (case t2 => k_is); (case t3 => k_is); (case t4 => k_is)))
  (case h_Desk_tight => (refine' Sh.MethF.mk ?t1 ?t0 ?t2 ?t3 ?t4; (case t1 => k_is); (case t0 => k_is); (case t2 => k_is); (case t3 => k_is); (case t4 => k_is)))
  (case h_Desk_around => (refine' Sh.MethF.mk ?t1 ?t0 ?t2 ?t3 ?t4; (case t1 => k_is); (case t0 => k_is); (case t2 => k_is); (case t3 => k_is); (case t4 => k_is)))
  (case h_Desk_room => (refine' Sh.MethF.mk ?t1 ?t0 ?t2 ?t3 ?t4; (case t1 => k_is); (case t0 => k_is); (case t2 => k_is); (case t3 => k_is); (case t4 => k_is)))
  (case h_Desk_move => (refine' Sh.MethF.mk ?t1 ?t0 ?t2 ?t3 ?t4; (case t1 => k_is); (case t0 => k_is); (case t2 => k_is); (case t3 => k_is); (case t4 => k_is)))
  (case h_Desk_fairest => (refine' Sh.MethF.mk ?t1 ?t0 ?t2 ?t3 ?t4; (case t1 => k_is); (case t0 => k_is); (case t2 => k_is); (case t3 => k_is); (case t4 => k_is)))
  (case h_Desk_stretch => (refine' Sh.MethF.mk ?t1 ?t0 ?t2 ?t3 ?t4; (case t1 => k_is); (case t0 => k_is); (case t2 => k_is); (case t3 => k_is); (case t4 => k_is)))
  (case h_answer_of => (refine' Sh.DefF.mk ?t1 ?t2 ?t3 ?t4; (case t1 => k_is); (case t2 => k_is); (case t3 => k_is); (case t4 => k_is)))
  (case h_answers => (refine' Sh.DefF.mk ?t1 ?t2 ?t3 ?t4; (case t1 => k_is); (case t2 => k_is); (case t3 => k_is); (case t4 => k_is)))
  (case rest =>
    intro TX
    refine' Sh.use_tab KX (Sh.TabF.mk (x := "order_by_weight") (st := Sh.s_order_by_weight) ?q1 ?q2 ?q3 ?q4 ?q5 ?q6 ?q7) ?rest2
    (case q1 => k_is)
    (case q2 => k_is)
    (case q3 => k_is)
    (case q4 => k_is)
    (case q5 => k_is)
    (case q6 => rfl)
    (case q7 => kernel_rfl)
    (case rest2 =>
      intro TF
      have tb := PySem.W.tab_of (x := "order_by_weight") T KX rfl TF.tabIn
      exact Sh.fin_of TX (TF.hasC KX T.g (fun _ _ _ _ _ _ us hl => match us, hl with | [_], _ => rfl)) tb.1 tb.2 TF.none hmg))
