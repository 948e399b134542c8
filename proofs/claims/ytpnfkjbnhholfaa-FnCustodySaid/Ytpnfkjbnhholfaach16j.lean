/- Contracts of the functions that the laws run. -/
import Derived.Test.Ytpnfkjbnhholfaach16i
import Derived.Test.Ytpnfkjbnhholfaagen
import Derived.Test.YtpnfkjbnhholfaaEngB
namespace Go.Proofs.Ytpnfkjbnhholfaa
open Go Go.Eng
set_option linter.unusedSimpArgs false
set_option linter.unusedVariables false
set_option maxRecDepth 10000
set_option maxHeartbeats 1000000
/-- slices.Clone[[]loop.example/g03007/impl.Han -/
noncomputable def c125 : Con := mkCon 125 false (α := (List THand)) (fun x => (fun (l : List THand) => [encLTHand l]) x) (fun _ => []) (fun x => (fun (l : List THand) => l.length ≤ 1073741824) x) (fun x => (fun (l : List THand) => (.own (0, 1) 5 0 l.length : D)) x) (fun x => (fun (l : List THand) => [((0, 1), .arr false 5 yTHand (ML encTHand l))]) x)
@[simp] theorem c125_f : c125.f = 125 := rfl
@[simp] theorem c125_own : c125.own = false := rfl
theorem c125_inj : ∀ u_ v_ : (List THand), ((fun x => (fun (l : List THand) => [encLTHand l]) x) u_).map nz = ((fun x => (fun (l : List THand) => [encLTHand l]) x) v_).map nz → u_ = v_ := by
  intro u_ v_ h
  obtain l := u_
  obtain l' := v_
  simp [nz_lit, nz1_lit, nz_agg, nz_sl, nz1_sl, encLTHand] at h
  first | (simp [h]; done) | (obtain ⟨⟩ := h; simp_all; done) | simp_all
@[simp] theorem c125_fn (l : List THand) : c125.fn [.sl false 5 yTHand (ML encTHand l)] [] = some ((fun (l : List THand) => l.length ≤ 1073741824) l, (fun (l : List THand) => (.own (0, 1) 5 0 l.length : D)) l, (fun (l : List THand) => [((0, 1), .arr false 5 yTHand (ML encTHand l))]) l) :=
  mkCon_fn (fun x y h _ => c125_inj x y h) (l : (List THand)) (by simp [nz, nz1, ML_nil, encLTHand]) rfl
@[simp] theorem c125_fn1 (s_l : Nat) (z_l : D) : c125.fn [.sl false s_l z_l []] [] = some ((fun (l : List THand) => l.length ≤ 1073741824) [], (fun (l : List THand) => (.own (0, 1) 5 0 l.length : D)) [], (fun (l : List THand) => [((0, 1), .arr false 5 yTHand (ML encTHand l))]) []) :=
  mkCon_fn (fun x y h _ => c125_inj x y h) ([] : (List THand)) (by simp [nz, nz1, ML_nil, encLTHand]) rfl
theorem c125_pc (l : List THand) (hpre : l.length ≤ 1073741824) : PCo Try.prog 125 [encLTHand l] (Tab.of []) (.own (0, 1) 5 0 l.length) (Tab.of [((0, 1), .arr false 5 yTHand (ML encTHand l))]) := by
  by_cases hl : l = []
  · subst hl
    show PCo Try.prog 125 [.sl false 5 yTHand []] Tab.nil (.own (0, 1) 5 0 0) (Tab.of [((0, 1), .arr false 5 yTHand [])])
    refine pco_slice fun a cap => ?_
    cases a with
    | none =>
      refine pc_ghost (s' := 0) (z' := .any) ?_
      refine pco_of_run [] (tin := []) (E := ⟨[], [], []⟩) (m := false) (base := 0) Env.ok_nil G_ok mix 300 6 Try.func125 (by kernel_rfl) rfl (by kernel_rfl) (by kernel_rfl) rfl ?_
      simp [Try.f125]
    | some q =>
      refine pco_of_run [] (tin := []) (E := ⟨[], [], []⟩) (m := false) (base := 0) Env.ok_nil G_ok mix 300 6 Try.func125 (by kernel_rfl) rfl (by kernel_rfl) (by kernel_rfl) rfl ?_
      simp [Try.f125]
  · refine pco_of_run [] (E := ⟨[], [], []⟩) (m := false) (base := 0) Env.ok_nil G_ok mix 300 6 Try.func125 (by kernel_rfl) rfl (by kernel_rfl) (by kernel_rfl) rfl ?_
    simp [Try.f125, -nilS, nilS_ML hl]
    omega
theorem c125_ok : c125.ok Try.prog := mkCon_ok fun l hpre => c125_pc l hpre
def atLe (h : Int) (x : THand) : Bool := decide (x.At ≤ h)
def mHold (l : List THand) (k h : Int) : Option THand := if mIsChain l then (l.filter (thH k)).reverse.find? (atLe h) else none
def hoA : Option THand → Int
  | none => 0
  | some x => x.Holder
def hoB : Option THand → Int
  | none => 0
  | some x => x.Who
@[simp] theorem hoA_none : hoA none = 0 := rfl
@[simp] theorem hoB_none : hoB none = 0 := rfl
@[simp] theorem hoA_some (x : THand) : hoA (some x) = x.Holder := rfl
@[simp] theorem hoB_some (x : THand) : hoB (some x) = x.Who := rfl
/-- loop.example/g03007/impl.HolderAt -/
noncomputable def c51 : Con := mkCon 51 false (α := (List THand) × Int × Int) (fun x => (fun (l : List THand) (k : Int) (h : Int) => [encLTHand l, dI k, dI h]) x.1 x.2.1 x.2.2) (fun _ => []) (fun x => (fun (l : List THand) (k : Int) (h : Int) => l.length ≤ 1099511627776) x.1 x.2.1 x.2.2) (fun x => (fun (l : List THand) (k : Int) (h : Int) => (.tup [dI (hoA (mHold l k h)), dI (hoB (mHold l k h))] : D)) x.1 x.2.1 x.2.2) (fun x => (fun (l : List THand) (k : Int) (h : Int) => []) x.1 x.2.1 x.2.2)
@[simp] theorem c51_f : c51.f = 51 := rfl
@[simp] theorem c51_own : c51.own = false := rfl
theorem c51_inj : ∀ u_ v_ : (List THand) × Int × Int, ((fun x => (fun (l : List THand) (k : Int) (h : Int) => [encLTHand l, dI k, dI h]) x.1 x.2.1 x.2.2) u_).map nz = ((fun x => (fun (l : List THand) (k : Int) (h : Int) => [encLTHand l, dI k, dI h]) x.1 x.2.1 x.2.2) v_).map nz → u_ = v_ := by
  intro u_ v_ h
  obtain ⟨l, k, h⟩ := u_
  obtain ⟨l', k', h'⟩ := v_
  simp [nz_lit, nz1_lit, nz_agg, nz_sl, nz1_sl, encLTHand] at h
  first | (simp [h]; done) | (obtain ⟨⟩ := h; simp_all; done) | simp_all
@[simp] theorem c51_fn (l : List THand) (k : Int) (h : Int) : c51.fn [.sl false 5 yTHand (ML encTHand l), .lit (.int .i64 k), .lit (.int .i64 h)] [] = some ((fun (l : List THand) (k : Int) (h : Int) => l.length ≤ 1099511627776) l k h, (fun (l : List THand) (k : Int) (h : Int) => (.tup [dI (hoA (mHold l k h)), dI (hoB (mHold l k h))] : D)) l k h, (fun (l : List THand) (k : Int) (h : Int) => []) l k h) :=
  mkCon_fn (fun x y h _ => c51_inj x y h) ((l, k, h) : (List THand) × Int × Int) (by simp [nz, nz1, ML_nil, encLTHand]) rfl
@[simp] theorem c51_fn1 (s_l : Nat) (z_l : D) (k : Int) (h : Int) : c51.fn [.sl false s_l z_l [], .lit (.int .i64 k), .lit (.int .i64 h)] [] = some ((fun (l : List THand) (k : Int) (h : Int) => l.length ≤ 1099511627776) [] k h, (fun (l : List THand) (k : Int) (h : Int) => (.tup [dI (hoA (mHold l k h)), dI (hoB (mHold l k h))] : D)) [] k h, (fun (l : List THand) (k : Int) (h : Int) => []) [] k h) :=
  mkCon_fn (fun x y h _ => c51_inj x y h) (([], k, h) : (List THand) × Int × Int) (by simp [nz, nz1, ML_nil, encLTHand]) rfl
theorem c51_pc (l : List THand) (k : Int) (h : Int) (hpre : l.length ≤ 1099511627776) : PCo Try.prog 51 [encLTHand l, dI k, dI h] (Tab.of []) (.tup [dI (hoA (mHold l k h)), dI (hoB (mHold l k h))]) (Tab.of []) := by
  refine pco_of_run [] (E := ⟨[c52, c126], [], []⟩) (m := false) (base := 0) (Env.ok_cons c52_ok (Env.ok_cons c126_ok Env.ok_nil)) G_ok mix 300 6 Try.func51 (by kernel_rfl) rfl (by kernel_rfl) (by kernel_rfl) rfl ?_
  cases hc : mIsChain l with
  | false =>
    simp [Try.f51, hc, mHold]
    exact hpre
  | true =>
    have hl := look_link (bkH l) k
    rw [bkH_get] at hl
    have hm : mHold l k h = (l.filter (thH k)).reverse.find? (atLe h) := by simp [mHold, hc]
    rw [hm]
    generalize (l.filter (thH k)).reverse = r0 at hl ⊢
    cases r0 with
    | nil =>
      simp only [linkR_nil] at hl
      simp [Try.f51, hc, hl]
      refine ⟨hpre, loop_unroll 400 ?_⟩
      simp
    | cons y t =>
      simp only [linkR_cons] at hl
      simp [Try.f51, hc, hl]
      refine ⟨hpre, ?_⟩
      refine loop_inv (fun r : List THand => (y :: t).find? (atLe h) = r.find? (atLe h)) (fun r => [(2, dI h), (8, linkR r)]) (fun _ => []) 1 (fun r => r.length) (y :: t) 400 (by simp) rfl (by simp [linkR_cons]) ?_
      intro r hr
      cases r with
      | nil =>
        simp [linkR_nil]
        rw [hr]; simp
      | cons x u =>
        have hf : (x :: u).find? (atLe h) = if x.At ≤ h then some x else u.find? (atLe h) := by
          by_cases h2 : x.At ≤ h <;> simp [List.find?, atLe, h2]
        rw [hf] at hr
        cases u with
        | nil =>
          simp [linkR_cons, linkR_nil]
          refine ⟨fun h2 => ?_, fun h2 => ?_⟩
          · rw [if_pos h2] at hr; simp [hr]
          · rw [if_neg (by omega)] at hr
            exact Again.mk [] hr (by simp [linkR_nil]) (by simp)
        | cons z v =>
          simp [linkR_cons]
          refine ⟨fun h2 => ?_, fun h2 => ?_⟩
          · rw [if_pos h2] at hr; simp [hr]
          · rw [if_neg (by omega)] at hr
            exact Again.mk (z :: v) hr (by simp [linkR_cons]) (by simp)
theorem c51_ok : c51.ok Try.prog := mkCon_ok fun ⟨l, k, h⟩ hpre => c51_pc l k h hpre
def lastBoth (k h : Int) (l : List THand) : Nat → Option Nat
  | 0 => none
  | p + 1 => if thH k (l[p]?.getD default) && atLe h (l[p]?.getD default) then some p else lastBoth k h l p
theorem lastBoth_lt {k h : Int} {l : List THand} : ∀ {p q : Nat}, lastBoth k h l p = some q → q < p
  | 0, q, h => by simp [lastBoth] at h
  | p + 1, q, h => by
    simp only [lastBoth] at h
    split at h
    · simp only [Option.some.injEq] at h; omega
    · have := lastBoth_lt h; omega
theorem lastBoth_find {k h : Int} {l : List THand} : ∀ {p : Nat}, p ≤ l.length → ((l.take p).filter (thH k)).reverse.find? (atLe h) = (lastBoth k h l p).map fun q => l[q]?.getD default
  | 0, _ => rfl
  | p + 1, hp => by
    have ih := lastBoth_find (k := k) (h := h) (l := l) (p := p) (by omega)
    rw [take_at (d := default) (by omega), List.filter_append, List.reverse_append]
    by_cases hk : thH k (l[p]?.getD default) = true
    · by_cases ha : atLe h (l[p]?.getD default) = true
      · simp [lastBoth, List.filter, hk, ha]
      · simp only [lastBoth, hk, Bool.true_and, if_neg ha]
        rw [← ih]; simp [List.filter, hk, ha]
    · simp only [lastBoth, hk, Bool.false_and, Bool.false_eq_true, if_false]
      rw [← ih]; simp [List.filter, hk]
def mHands (l : List THand) (k : Int) : List THand := l.filter (thH k)
theorem mHands_len (l : List THand) (k : Int) : (mHands l k).length ≤ l.length := List.length_filter_le _ _
def revF {α : Type} [Inhabited α] (l : List α) (i q : Nat) : α := if q < i ∨ l.length < q + 1 + i then l[l.length - 1 - q]?.getD default else l[q]?.getD default
def revR {α : Type} [Inhabited α] (l : List α) (i : Nat) : List α := gen (revF l i) l.length
theorem gen_ext {α : Type} {f g : Nat → α} {n : Nat} (h : ∀ q, q < n → f q = g q) : gen f n = gen g n := by
  simp only [gen]; exact List.map_congr_left fun q hq => h q (by simpa using hq)
theorem gen_set {α : Type} {f : Nat → α} {n i : Nat} {x : α} : (gen f n).set i x = gen (fun q => if q = i then x else f q) n := by
  refine List.ext_getElem (by simp) fun q h1 h2 => ?_
  simp [gen, List.getElem_set]
  by_cases e : i = q
  · subst e; simp
  · simp [e, Ne.symm e]
theorem gen_self {α : Type} [Inhabited α] (l : List α) : gen (fun q => l[q]?.getD default) l.length = l := by
  refine List.ext_getElem (by simp) fun q h1 h2 => ?_
  simp [gen, h2]
theorem revR_zero {α : Type} [Inhabited α] (l : List α) : revR l 0 = l := by
  conv => rhs; rw [← gen_self l]
  refine gen_ext fun q hq => ?_
  simp only [revF]; rw [if_neg (by omega)]
theorem revR_len {α : Type} [Inhabited α] (l : List α) (i : Nat) : (revR l i).length = l.length := by simp [revR]
theorem revR_end {α : Type} [Inhabited α] {l : List α} {i : Nat} (h : l.length ≤ 2 * i + 1) : revR l i = l.reverse := by
  refine List.ext_getElem (by simp [revR]) fun q h1 h2 => ?_
  have hq : q < l.length := by simpa [revR] using h1
  have e1 : l.length - 1 - q < l.length := by omega
  simp only [revR, gen, List.getElem_map, List.getElem_range, List.getElem_reverse, revF]
  split
  · simp [e1]
  · have : l.length - 1 - q = q := by omega
    simp [this, hq]
theorem revR_get {α : Type} [Inhabited α] {l : List α} {i q : Nat} (h : q < l.length) : (revR l i)[q]?.getD default = revF l i q := gen_get h
theorem revR_step {α : Type} [Inhabited α] {l : List α} {i : Nat} (h : 2 * i + 1 < l.length) : ((revR l i).set i ((revR l i)[l.length - 1 - i]?.getD default)).set (l.length - 1 - i) ((revR l i)[i]?.getD default) = revR l (i + 1) := by
  rw [revR_get (by omega), revR_get (by omega)]
  simp only [revR, gen_set]
  refine gen_ext fun q hq => ?_
  by_cases e1 : q = l.length - 1 - i
  · rw [if_pos e1]
    simp only [revF]
    rw [if_neg (by omega), if_pos (by omega)]
    congr 2; omega
  · rw [if_neg e1]
    by_cases e2 : q = i
    · rw [if_pos e2]
      simp only [revF]
      rw [if_neg (by omega), if_pos (by omega)]
      congr 2; omega
    · rw [if_neg e2]
      simp only [revF]
      by_cases e3 : q < i ∨ l.length < q + 1 + i
      · rw [if_pos e3, if_pos (by omega)]
      · rw [if_neg e3, if_neg (by omega)]
/-- slices.Reverse[[]loop.example/g03007/impl.Han -/
noncomputable def c131 : Con := mkCon 131 true (α := (List THand)) (fun x => (fun (l : List THand) => ([.own (0, 0) 5 0 l.length] : List D)) x) (fun x => (fun (l : List THand) => ([((0, 0), .arr false 5 yTHand (ML encTHand l))] : List (Nm × OO))) x) (fun x => (fun (l : List THand) => l.length ≤ 1099511627776) x) (fun x => (fun (l : List THand) => (.tup [] : D)) x) (fun x => (fun (l : List THand) => ([((0, 0), .arr false 5 yTHand (ML encTHand l.reverse))] : List (Nm × OO))) x)
@[simp] theorem c131_f : c131.f = 131 := rfl
@[simp] theorem c131_own : c131.own = true := rfl
theorem c131_inj : ∀ u_ v_ : (List THand), ((fun x => (fun (l : List THand) => ([.own (0, 0) 5 0 l.length] : List D)) x) u_).map nz = ((fun x => (fun (l : List THand) => ([.own (0, 0) 5 0 l.length] : List D)) x) v_).map nz → (fun x => (fun (l : List THand) => ([((0, 0), .arr false 5 yTHand (ML encTHand l))] : List (Nm × OO))) x) u_ = (fun x => (fun (l : List THand) => ([((0, 0), .arr false 5 yTHand (ML encTHand l))] : List (Nm × OO))) x) v_ → u_ = v_ := by
  intro u_ v_ h h2_
  obtain l := u_
  obtain l' := v_
  simp [nz_lit, nz1_lit, nz_agg, nz_sl, nz1_sl, nz_sx, nz_el, nz1_el, nz_own, nz1_own, nz_ptr, nz_fn, nz_iface] at h h2_
  first | (simp [h, h2_]; done) | (obtain ⟨h3_, h4_⟩ := List.append_inj h2_ h.1; simp_all; done) | simp_all | grind
@[simp] theorem c131_fn (l : List THand) : c131.fn ([.own (0, 0) 5 0 l.length]) ([((0, 0), .arr false 5 yTHand (ML encTHand l))]) = some (l.length ≤ 1099511627776, .tup [], [((0, 0), .arr false 5 yTHand (ML encTHand l.reverse))]) :=
  mkCon_fn c131_inj (l : (List THand)) rfl rfl
theorem c131_pc (l : List THand) (hpre : l.length ≤ 1099511627776) : PCo Try.prog 131 ([.own (0, 0) 5 0 l.length]) (Tab.of ([((0, 0), .arr false 5 yTHand (ML encTHand l))])) (.tup []) (Tab.of ([((0, 0), .arr false 5 yTHand (ML encTHand l.reverse))])) := by
  refine pco_of_run [] (E := ⟨[], [], []⟩) (m := false) (base := 0) Env.ok_nil G_ok mix 300 6 Try.func131 (by kernel_rfl) rfl (by kernel_rfl) (by kernel_rfl) rfl ?_
  simp [Try.f131]
  refine ⟨by omega, ?_⟩
  refine loop_inv (fun i : Nat => 2 * i ≤ l.length) (fun i => [(0, .own (0, 0) 5 0 l.length), (2, dI i), (3, dI ((l.length : Int) - 1 - i))]) (fun i => [((0, 0), .arr false 5 yTHand (ML encTHand (revR l i)))]) 2 (fun i => l.length - i) 0 400 (by simp) (by simp) (by simp [revR_zero]) ?_
  intro i hi
  simp [revR_len]
  refine ⟨fun hlt => ?_, fun hge => ?_⟩
  · have hj : ((l.length : Int) - 1 - i).toNat = l.length - 1 - i := by omega
    have hs := revR_step (l := l) (i := i) (by omega)
    repeat' (first | omega | refine And.intro ?_ ?_ | intro _)
    refine Again.mk (i + 1) (by omega) ?_ (by first | omega | (simp; omega))
    rw [hs]; simp; omega
  · rw [revR_end (by omega)]
theorem c131_ok : c131.ok Try.prog := mkCon_ok fun l hpre => c131_pc l hpre
@[simp] theorem rev_nil : c131.fn [.own (0, 0) 5 0 0] [((0, 0), .arr false 5 yTHand [])] = some (0 ≤ 1099511627776, .tup [], [((0, 0), .arr false 5 yTHand [])]) := by
  have := c131_fn []
  simpa [ML_nil] using this
/-- loop.example/g03007/impl.HandsOf -/
noncomputable def c55 : Con := mkCon 55 false (α := (List THand) × Int) (fun x => (fun (l : List THand) (k : Int) => [encLTHand l, dI k]) x.1 x.2) (fun _ => []) (fun x => (fun (l : List THand) (k : Int) => l.length ≤ 1073741823) x.1 x.2) (fun x => (fun (l : List THand) (k : Int) => (.own (0, 1) 5 0 (mHands l k).length : D)) x.1 x.2) (fun x => (fun (l : List THand) (k : Int) => [((0, 1), .arr false 5 yTHand (ML encTHand (mHands l k)))]) x.1 x.2)
@[simp] theorem c55_f : c55.f = 55 := rfl
@[simp] theorem c55_own : c55.own = false := rfl
theorem c55_inj : ∀ u_ v_ : (List THand) × Int, ((fun x => (fun (l : List THand) (k : Int) => [encLTHand l, dI k]) x.1 x.2) u_).map nz = ((fun x => (fun (l : List THand) (k : Int) => [encLTHand l, dI k]) x.1 x.2) v_).map nz → u_ = v_ := by
  intro u_ v_ h
  obtain ⟨l, k⟩ := u_
  obtain ⟨l', k'⟩ := v_
  simp [nz_lit, nz1_lit, nz_agg, nz_sl, nz1_sl, encLTHand] at h
  first | (simp [h]; done) | (obtain ⟨⟩ := h; simp_all; done) | simp_all
@[simp] theorem c55_fn (l : List THand) (k : Int) : c55.fn [.sl false 5 yTHand (ML encTHand l), .lit (.int .i64 k)] [] = some ((fun (l : List THand) (k : Int) => l.length ≤ 1073741823) l k, (fun (l : List THand) (k : Int) => (.own (0, 1) 5 0 (mHands l k).length : D)) l k, (fun (l : List THand) (k : Int) => [((0, 1), .arr false 5 yTHand (ML encTHand (mHands l k)))]) l k) :=
  mkCon_fn (fun x y h _ => c55_inj x y h) ((l, k) : (List THand) × Int) (by simp [nz, nz1, ML_nil, encLTHand]) rfl
@[simp] theorem c55_fn1 (s_l : Nat) (z_l : D) (k : Int) : c55.fn [.sl false s_l z_l [], .lit (.int .i64 k)] [] = some ((fun (l : List THand) (k : Int) => l.length ≤ 1073741823) [] k, (fun (l : List THand) (k : Int) => (.own (0, 1) 5 0 (mHands l k).length : D)) [] k, (fun (l : List THand) (k : Int) => [((0, 1), .arr false 5 yTHand (ML encTHand (mHands l k)))]) [] k) :=
  mkCon_fn (fun x y h _ => c55_inj x y h) (([], k) : (List THand) × Int) (by simp [nz, nz1, ML_nil, encLTHand]) rfl
theorem c55_pc (l : List THand) (k : Int) (hpre : l.length ≤ 1073741823) : PCo Try.prog 55 [encLTHand l, dI k] (Tab.of []) (.own (0, 1) 5 0 (mHands l k).length) (Tab.of [((0, 1), .arr false 5 yTHand (ML encTHand (mHands l k)))]) := by
  refine pco_of_run [] (E := ⟨[c126, c131], [], []⟩) (m := false) (base := 0) (Env.ok_cons c126_ok (Env.ok_cons c131_ok Env.ok_nil)) G_ok mix 300 6 Try.func55 (by kernel_rfl) rfl (by kernel_rfl) (by kernel_rfl) rfl ?_
  have hl := look_link (bkH l) k
  rw [bkH_get] at hl
  have hb := mHands_len l k
  have hrv : (l.filter (thH k)).reverse.reverse = mHands l k := by rw [List.reverse_reverse]; rfl
  generalize (l.filter (thH k)).reverse = r0 at hl hrv
  generalize mHands l k = o at hb hrv ⊢
  have hlo := congrArg List.length hrv
  simp only [List.length_reverse] at hlo
  cases r0 with
  | nil =>
    simp only [linkR_nil] at hl
    simp only [List.reverse_nil] at hrv
    subst hrv
    simp [Try.f55, hl]
    refine ⟨by omega, loop_unroll 400 ?_⟩
    simp
  | cons y t =>
    simp only [linkR_cons] at hl
    simp [Try.f55, hl]
    refine ⟨by omega, ?_⟩
    refine loop_inv (fun q : List THand × List THand => q.1 ++ q.2 = y :: t) (fun q => [(5, .own (0, 1) 5 0 q.1.length), (6, linkR q.2)]) (fun q => [((0, 1), .arr false 5 yTHand (ML encTHand q.1))]) 2 (fun q => q.2.length) ([], y :: t) 400 (by simp) (by simp) (by simp [linkR_cons]) ?_
    intro ⟨a, r⟩ hr
    simp only at hr
    have hlen := congrArg List.length hr
    simp only [List.length_append, List.length_cons] at hlen hlo
    cases r with
    | nil =>
      simp only [List.append_nil] at hr
      have hra : a.reverse = o := by rw [hr]; exact hrv
      simp [linkR_nil, hra]
      simp only [List.length_nil] at hlen
      omega
    | cons x u =>
      have hr2 : (a ++ [x]) ++ u = y :: t := by simpa using hr
      simp only [List.length_cons] at hlen
      cases u with
      | nil =>
        simp [linkR_cons, linkR_nil]
        exact ⟨by omega, Again.mk (a ++ [x], []) hr2 (by simp [linkR_nil]) (by simp)⟩
      | cons z v =>
        simp [linkR_cons]
        exact ⟨by omega, Again.mk (a ++ [x], z :: v) hr2 (by simp [linkR_cons]) (by simp)⟩
theorem c55_ok : c55.ok Try.prog := mkCon_ok fun ⟨l, k⟩ hpre => c55_pc l k hpre
def isHo (x : THand) : Bool := decide (x.Holder = 2)
def mHouses (l : List THand) (k : Int) : List Int := pick isHo (fun x => x.Who) (mHands l k)
theorem mHouses_len (l : List THand) (k : Int) : (mHouses l k).length ≤ l.length := Nat.le_trans (pick_len _) (mHands_len l k)
end Go.Proofs.Ytpnfkjbnhholfaa
