/- Contracts of the functions that the laws run. -/
import Derived.Test.Ytnghehfdclhfdaach16i
import Derived.Test.Ytnghehfdclhfdaagen
import Derived.Test.YtnghehfdclhfdaaEngB
namespace Go.Proofs.Ytnghehfdclhfdaa
open Go Go.Eng
set_option linter.unusedSimpArgs false
set_option linter.unusedVariables false
set_option maxRecDepth 10000
set_option maxHeartbeats 1000000
/-- slices.Clone[[]loop.example/g03007/impl.Han -/
noncomputable def c62 : Con := mkCon 62 false (α := (List THand)) (fun x => (fun (l : List THand) => [encLTHand l]) x) (fun _ => []) (fun x => (fun (l : List THand) => l.length ≤ 1073741824) x) (fun x => (fun (l : List THand) => (.own (0, 1) 5 0 l.length : D)) x) (fun x => (fun (l : List THand) => [((0, 1), .arr false 5 yTHand (ML encTHand l))]) x)
@[simp] theorem c62_f : c62.f = 62 := rfl
@[simp] theorem c62_own : c62.own = false := rfl
theorem c62_inj : ∀ u_ v_ : (List THand), ((fun x => (fun (l : List THand) => [encLTHand l]) x) u_).map nz = ((fun x => (fun (l : List THand) => [encLTHand l]) x) v_).map nz → u_ = v_ := by
  intro u_ v_ h
  obtain l := u_
  obtain l' := v_
  simp [nz_lit, nz1_lit, nz_agg, nz_sl, nz1_sl, encLTHand] at h
  first | (simp [h]; done) | (obtain ⟨⟩ := h; simp_all; done) | simp_all
@[simp] theorem c62_fn (l : List THand) : c62.fn [.sl false 5 yTHand (ML encTHand l)] [] = some ((fun (l : List THand) => l.length ≤ 1073741824) l, (fun (l : List THand) => (.own (0, 1) 5 0 l.length : D)) l, (fun (l : List THand) => [((0, 1), .arr false 5 yTHand (ML encTHand l))]) l) :=
  mkCon_fn (fun x y h _ => c62_inj x y h) (l : (List THand)) (by simp [nz, nz1, ML_nil, encLTHand]) rfl
@[simp] theorem c62_fn1 (s_l : Nat) (z_l : D) : c62.fn [.sl false s_l z_l []] [] = some ((fun (l : List THand) => l.length ≤ 1073741824) [], (fun (l : List THand) => (.own (0, 1) 5 0 l.length : D)) [], (fun (l : List THand) => [((0, 1), .arr false 5 yTHand (ML encTHand l))]) []) :=
  mkCon_fn (fun x y h _ => c62_inj x y h) ([] : (List THand)) (by simp [nz, nz1, ML_nil, encLTHand]) rfl
theorem c62_pc (l : List THand) (hpre : l.length ≤ 1073741824) : PCo Try.prog 62 [encLTHand l] (Tab.of []) (.own (0, 1) 5 0 l.length) (Tab.of [((0, 1), .arr false 5 yTHand (ML encTHand l))]) := by
  by_cases hl : l = []
  · subst hl
    show PCo Try.prog 62 [.sl false 5 yTHand []] Tab.nil (.own (0, 1) 5 0 0) (Tab.of [((0, 1), .arr false 5 yTHand [])])
    refine pco_slice fun a cap => ?_
    cases a with
    | none =>
      refine pc_ghost (s' := 0) (z' := .any) ?_
      refine pco_of_run [] (tin := []) (E := ⟨[], [], []⟩) (m := false) (base := 0) Env.ok_nil G_ok mix 300 6 Try.func62 (by kernel_rfl) rfl (by kernel_rfl) (by kernel_rfl) rfl ?_
      simp [Try.f62]
    | some q =>
      refine pco_of_run [] (tin := []) (E := ⟨[], [], []⟩) (m := false) (base := 0) Env.ok_nil G_ok mix 300 6 Try.func62 (by kernel_rfl) rfl (by kernel_rfl) (by kernel_rfl) rfl ?_
      simp [Try.f62]
  · refine pco_of_run [] (E := ⟨[], [], []⟩) (m := false) (base := 0) Env.ok_nil G_ok mix 300 6 Try.func62 (by kernel_rfl) rfl (by kernel_rfl) (by kernel_rfl) rfl ?_
    simp [Try.f62, -nilS, nilS_ML hl]
    omega
theorem c62_ok : c62.ok Try.prog := mkCon_ok fun l hpre => c62_pc l hpre
def atLe (h : Int) (x : THand) : Bool := decide (x.At ≤ h)
def mHold (l : List THand) (k h : Int) : Option THand := if mIsChain l then (l.filter (thH k)).reverse.find? (atLe h) else none
def hoA : Option THand → Int
  | none => 0
  | some x => x.Holder
def hoB : Option THand → Int
  | none => 0
  | some x => x.Who
@[simp] theorem hoA_none : hoA none = 0 := rfl
@[simp] theorem hoB_none : hoB none = 0 := rfl
@[simp] theorem hoA_some (x : THand) : hoA (some x) = x.Holder := rfl
@[simp] theorem hoB_some (x : THand) : hoB (some x) = x.Who := rfl
def lastBoth (k h : Int) (l : List THand) : Nat → Option Nat
  | 0 => none
  | p + 1 => if thH k (l[p]?.getD default) && atLe h (l[p]?.getD default) then some p else lastBoth k h l p
theorem lastBoth_lt {k h : Int} {l : List THand} : ∀ {p q : Nat}, lastBoth k h l p = some q → q < p
  | 0, q, h => by simp [lastBoth] at h
  | p + 1, q, h => by
    simp only [lastBoth] at h
    split at h
    · simp only [Option.some.injEq] at h; omega
    · have := lastBoth_lt h; omega
theorem lastBoth_find {k h : Int} {l : List THand} : ∀ {p : Nat}, p ≤ l.length → ((l.take p).filter (thH k)).reverse.find? (atLe h) = (lastBoth k h l p).map fun q => l[q]?.getD default
  | 0, _ => rfl
  | p + 1, hp => by
    have ih := lastBoth_find (k := k) (h := h) (l := l) (p := p) (by omega)
    rw [take_at (d := default) (by omega), List.filter_append, List.reverse_append]
    by_cases hk : thH k (l[p]?.getD default) = true
    · by_cases ha : atLe h (l[p]?.getD default) = true
      · simp [lastBoth, List.filter, hk, ha]
      · simp only [lastBoth, hk, Bool.true_and, if_neg ha]
        rw [← ih]; simp [List.filter, hk, ha]
    · simp only [lastBoth, hk, Bool.false_and, Bool.false_eq_true, if_false]
      rw [← ih]; simp [List.filter, hk]
def mHands (l : List THand) (k : Int) : List THand := l.filter (thH k)
theorem mHands_len (l : List THand) (k : Int) : (mHands l k).length ≤ l.length := List.length_filter_le _ _
def revF {α : Type} [Inhabited α] (l : List α) (i q : Nat) : α := if q < i ∨ l.length < q + 1 + i then l[l.length - 1 - q]?.getD default else l[q]?.getD default
def revR {α : Type} [Inhabited α] (l : List α) (i : Nat) : List α := gen (revF l i) l.length
theorem gen_ext {α : Type} {f g : Nat → α} {n : Nat} (h : ∀ q, q < n → f q = g q) : gen f n = gen g n := by
  simp only [gen]; exact List.map_congr_left fun q hq => h q (by simpa using hq)
theorem gen_set {α : Type} {f : Nat → α} {n i : Nat} {x : α} : (gen f n).set i x = gen (fun q => if q = i then x else f q) n := by
  refine List.ext_getElem (by simp) fun q h1 h2 => ?_
  simp [gen, List.getElem_set]
  by_cases e : i = q
  · subst e; simp
  · simp [e, Ne.symm e]
theorem gen_self {α : Type} [Inhabited α] (l : List α) : gen (fun q => l[q]?.getD default) l.length = l := by
  refine List.ext_getElem (by simp) fun q h1 h2 => ?_
  simp [gen, h2]
theorem revR_zero {α : Type} [Inhabited α] (l : List α) : revR l 0 = l := by
  conv => rhs; rw [← gen_self l]
  refine gen_ext fun q hq => ?_
  simp only [revF]; rw [if_neg (by omega)]
theorem revR_len {α : Type} [Inhabited α] (l : List α) (i : Nat) : (revR l i).length = l.length := by simp [revR]
theorem revR_end {α : Type} [Inhabited α] {l : List α} {i : Nat} (h : l.length ≤ 2 * i + 1) : revR l i = l.reverse := by
  refine List.ext_getElem (by simp [revR]) fun q h1 h2 => ?_
  have hq : q < l.length := by simpa [revR] using h1
  have e1 : l.length - 1 - q < l.length := by omega
  simp only [revR, gen, List.getElem_map, List.getElem_range, List.getElem_reverse, revF]
  split
  · simp [e1]
  · have : l.length - 1 - q = q := by omega
    simp [this, hq]
theorem revR_get {α : Type} [Inhabited α] {l : List α} {i q : Nat} (h : q < l.length) : (revR l i)[q]?.getD default = revF l i q := gen_get h
theorem revR_step {α : Type} [Inhabited α] {l : List α} {i : Nat} (h : 2 * i + 1 < l.length) : ((revR l i).set i ((revR l i)[l.length - 1 - i]?.getD default)).set (l.length - 1 - i) ((revR l i)[i]?.getD default) = revR l (i + 1) := by
  rw [revR_get (by omega), revR_get (by omega)]
  simp only [revR, gen_set]
  refine gen_ext fun q hq => ?_
  by_cases e1 : q = l.length - 1 - i
  · rw [if_pos e1]
    simp only [revF]
    rw [if_neg (by omega), if_pos (by omega)]
    congr 2; omega
  · rw [if_neg e1]
    by_cases e2 : q = i
    · rw [if_pos e2]
      simp only [revF]
      rw [if_neg (by omega), if_pos (by omega)]
      congr 2; omega
    · rw [if_neg e2]
      simp only [revF]
      by_cases e3 : q < i ∨ l.length < q + 1 + i
      · rw [if_pos e3, if_pos (by omega)]
      · rw [if_neg e3, if_neg (by omega)]
def isHo (x : THand) : Bool := decide (x.Holder = 2)
def mHouses (l : List THand) (k : Int) : List Int := pick isHo (fun x => x.Who) (mHands l k)
theorem mHouses_len (l : List THand) (k : Int) : (mHouses l k).length ≤ l.length := Nat.le_trans (pick_len _) (mHands_len l k)
end Go.Proofs.Ytnghehfdclhfdaa
