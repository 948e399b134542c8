/- Contracts of the functions that the laws run. -/
import Derived.Test.Ytanmlliijcpdjaach20c
import Derived.Test.YtanmlliijcpdjaaEngB
namespace Go.Proofs.Ytanmlliijcpdjaa
open Go Go.Eng
set_option linter.unusedSimpArgs false
set_option linter.unusedVariables false
set_option maxRecDepth 10000
set_option maxHeartbeats 1000000
def partsL (l : List TPortion) : List Int := l.map TPortion.part_
@[simp] theorem partsL_len (l : List TPortion) : (partsL l).length = l.length := by simp [partsL]
theorem partsL_get (l : List TPortion) (i : Nat) : (partsL l)[i]?.getD 0 = (l[i]?.getD default).part_ := by
  simp only [partsL, List.getElem?_map]
  cases l[i]? <;> rfl
def d2At (c w : Int) (l : List TPortion) (i : Nat) : TPortion := ⟨⟨(l[i]?.getD default).Share.Who, qAt c w (partsL l) i⟩, (l[i]?.getD default).part_, rAt c w (partsL l) i⟩
def d3At (c : Int) (l : List TPortion) (j i : Nat) : TPortion := ⟨⟨(l[i]?.getD default).Share.Who, incAt (qAt c (sumI (partsL l)) (partsL l)) j i⟩, (l[i]?.getD default).part_, rAt c (sumI (partsL l)) (partsL l) i⟩
def dAt (c : Int) (l : List TPortion) (i : Nat) : TPortion := ⟨⟨(l[i]?.getD default).Share.Who, sAt c (partsL l) i⟩, (l[i]?.getD default).part_, rAt c (sumI (partsL l)) (partsL l) i⟩
def mDiv (c : Int) (l : List TPortion) : List TPortion := gen (dAt c l) l.length
theorem gen_drop_get {α : Type} {f : Nat → α} {l : List α} {p : Nat} {d : α} : (gen f p ++ l.drop p)[p]?.getD d = l[p]?.getD d := by
  rw [List.getElem?_append_right (by simp)]; simp
theorem gen_drop_set {α : Type} {f : Nat → α} {l : List α} {p : Nat} {x : α} (h : p < l.length) (e : x = f p) : gen f p ++ (l.drop p).set 0 x = gen f (p + 1) ++ l.drop (p + 1) := by
  subst e; rw [List.drop_eq_getElem_cons h, List.set_cons_zero, gen_succ]; simp
theorem gen_drop_get0 {α : Type} {f : Nat → α} {l : List α} {p : Nat} {x d : α} (h : p < l.length) : (gen f p ++ (l.drop p).set 0 x)[p]?.getD d = x := by
  rw [List.getElem?_append_right (by simp), List.drop_eq_getElem_cons h, List.set_cons_zero]; simp
theorem d3_zero (c : Int) (l : List TPortion) : d3At c l 0 = d2At c (sumI (partsL l)) l := by funext i; simp [d3At, d2At, incAt]
theorem d3_set {c : Int} {l : List TPortion} {j : Nat} (h : j < l.length) : (gen (d3At c l j) l.length).set j ⟨⟨(l[j]?.getD default).Share.Who, qAt c (sumI (partsL l)) (partsL l) j + 1⟩, (l[j]?.getD default).part_, rAt c (sumI (partsL l)) (partsL l) j⟩ = gen (d3At c l (j + 1)) l.length := by
  refine List.ext_getElem (by simp) fun i h1 h2 => ?_
  rw [List.getElem_set]
  simp only [gen_ge, d3At, incAt]
  split
  · rename_i e; subst e; simp
  · rename_i e
    have : (i < j) = (i < j + 1) := by rw [eq_iff_iff]; omega
    simp only [this]
/-- loop.example/g03007/impl.divide -/
noncomputable def c21 : Con := mkCon 21 true (α := (List TPortion) × Int) (fun x => (fun (l : List TPortion) (c : Int) => ([dI c, .own (0, 0) 4 0 l.length] : List D)) x.1 x.2) (fun x => (fun (l : List TPortion) (c : Int) => ([((0, 0), .arr false 4 yTPortion (ML encTPortion l))] : List (Nm × OO))) x.1 x.2) (fun x => (fun (l : List TPortion) (c : Int) => kSplit c (partsL l) = true) x.1 x.2) (fun x => (fun (l : List TPortion) (c : Int) => (.tup [] : D)) x.1 x.2) (fun x => (fun (l : List TPortion) (c : Int) => ([((0, 0), .arr false 4 yTPortion (ML encTPortion (mDiv c l)))] : List (Nm × OO))) x.1 x.2)
@[simp] theorem c21_f : c21.f = 21 := rfl
@[simp] theorem c21_own : c21.own = true := rfl
theorem c21_inj : ∀ u_ v_ : (List TPortion) × Int, ((fun x => (fun (l : List TPortion) (c : Int) => ([dI c, .own (0, 0) 4 0 l.length] : List D)) x.1 x.2) u_).map nz = ((fun x => (fun (l : List TPortion) (c : Int) => ([dI c, .own (0, 0) 4 0 l.length] : List D)) x.1 x.2) v_).map nz → (fun x => (fun (l : List TPortion) (c : Int) => ([((0, 0), .arr false 4 yTPortion (ML encTPortion l))] : List (Nm × OO))) x.1 x.2) u_ = (fun x => (fun (l : List TPortion) (c : Int) => ([((0, 0), .arr false 4 yTPortion (ML encTPortion l))] : List (Nm × OO))) x.1 x.2) v_ → u_ = v_ := by
  intro u_ v_ h h2_
  obtain ⟨l, c⟩ := u_
  obtain ⟨l', c'⟩ := v_
  simp [nz_lit, nz1_lit, nz_agg, nz_sl, nz1_sl, nz_sx, nz_el, nz1_el, nz_own, nz1_own, nz_ptr, nz_fn, nz_iface] at h h2_
  first | (simp [h, h2_]; done) | (obtain ⟨h3_, h4_⟩ := List.append_inj h2_ h.1; simp_all; done) | simp_all | grind
@[simp] theorem c21_fn (l : List TPortion) (c : Int) : c21.fn ([dI c, .own (0, 0) 4 0 l.length]) ([((0, 0), .arr false 4 yTPortion (ML encTPortion l))]) = some (kSplit c (partsL l) = true, .tup [], [((0, 0), .arr false 4 yTPortion (ML encTPortion (mDiv c l)))]) :=
  mkCon_fn c21_inj ((l, c) : (List TPortion) × Int) rfl rfl
theorem c21_pc (l : List TPortion) (c : Int) (hpre : kSplit c (partsL l) = true) : PCo Try.prog 21 ([dI c, .own (0, 0) 4 0 l.length]) (Tab.of ([((0, 0), .arr false 4 yTPortion (ML encTPortion l))])) (.tup []) (Tab.of ([((0, 0), .arr false 4 yTPortion (ML encTPortion (mDiv c l)))])) := by
  refine pco_of_run [] (E := ⟨[], [], []⟩) (m := false) (base := 0) Env.ok_nil G_ok mix 300 6 Try.func21 (by kernel_rfl) rfl (by kernel_rfl) (by kernel_rfl) rfl ?_
  simp [Try.f21]
  simp only [kSplit, Bool.and_eq_true, decide_eq_true_eq] at hpre
  obtain ⟨⟨⟨hk1, hi⟩, hk3⟩, hk4⟩ := hpre
  have hc := mIn_iff.1 hk1
  simp at hk4
  refine loop_inv (fun p : Nat => p ≤ l.length) (fun p => [(0, dI c), (1, .own (0, 0) 4 0 l.length), (4, dI (sumI ((partsL l).take p))), (11, .own (0, 0) 4 0 l.length), (12, dI l.length), (13, dI p)]) (fun p => [((0, 0), .arr false 4 yTPortion (ML encTPortion l))]) 2 (fun p => l.length - p) 0 400 (by simp) (by simp) (by simp) ?_
  intro p hp
  simp
  have hb := sumI_bd p (okPs_take hi) (by simp; omega)
  refine ⟨fun hlt => ?_, fun hge => ?_⟩
  · have h2 := sumI_at (l := partsL l) (p := p) (by simp; omega)
    rw [partsL_get] at h2
    have hx := okPs_get hi (p := p) (by simp; omega)
    rw [partsL_get] at hx
    repeat' (first | omega | refine And.intro ?_ ?_ | intro _)
    exact Again.mk (p + 1) (by omega) (by simp [h2]) (by first | omega | (simp; omega))
  have : p = l.length := by omega
  subst this
  have e0 : (partsL l).take l.length = partsL l := List.take_of_length_le (by simp)
  rw [e0] at hb ⊢
  refine loop_inv (fun p : Nat => p ≤ l.length) (fun p => [(0, dI c), (1, .own (0, 0) 4 0 l.length), (4, dI (sumI (partsL l))), (7, dI (sumI (gen (rAt c (sumI (partsL l)) (partsL l)) p))), (23, dI l.length), (24, dI p)]) (fun p => [((0, 0), .arr false 4 yTPortion (ML encTPortion (gen (d2At c (sumI (partsL l)) l) p ++ l.drop p)))]) 2 (fun p => l.length - p) 0 400 (by simp) (by simp) (by simp) ?_
  intro p hp
  by_cases hlt : p < l.length
  · have hx := okPs_get hi (p := p) (by simp; omega)
    have hq := q_bd (c := c) (w := sumI (partsL l)) (l := partsL l) (i := p) hc.1 (by omega) hx.1
    have hcx : c * ((partsL l)[p]?.getD 0) ≤ 10000000 * 1000 := Int.mul_le_mul hc.2 hx.2 hx.1 (by omega)
    have hcx0 : 0 ≤ c * ((partsL l)[p]?.getD 0) := Int.mul_nonneg hc.1 hx.1
    have e1 : (c * ((partsL l)[p]?.getD 0)).tdiv (sumI (partsL l)) = qAt c (sumI (partsL l)) (partsL l) p := Int.tdiv_eq_ediv_of_nonneg hcx0
    have e2 : (c * ((partsL l)[p]?.getD 0)).tmod (sumI (partsL l)) = rAt c (sumI (partsL l)) (partsL l) p := Int.tmod_eq_emod_of_nonneg hcx0
    have hr := rest_bd (c := c) (w := sumI (partsL l)) (l := partsL l) (by omega) p
    have hr2 := emod_bd (c * ((partsL l)[p]?.getD 0)) (show 0 < sumI (partsL l) by omega)
    have hg := gen_drop_get (f := d2At c (sumI (partsL l)) l) (l := l) (p := p) (d := default)
    rw [partsL_get] at e1 e2 hx hcx hcx0 hr2
    simp [hg, e1, e2, gen_drop_get0 hlt]
    have hd : d2At c (sumI (partsL l)) l p = ⟨⟨(l[p]?.getD default).Share.Who, qAt c (sumI (partsL l)) (partsL l) p⟩, (l[p]?.getD default).part_, rAt c (sumI (partsL l)) (partsL l) p⟩ := rfl
    have hs := gen_drop_set (f := d2At c (sumI (partsL l)) l) (l := l) (p := p) hlt hd.symm
    have hm : (p : Int) * (sumI (partsL l) - 1) ≤ 20 * 20000 := Int.mul_le_mul (by omega) (by omega) (by omega) (by omega)
    have hr3 : rAt c (sumI (partsL l)) (partsL l) p = c * (l[p]?.getD default).part_ % sumI (partsL l) := by rw [rAt, partsL_get]
    rw [partsL_get] at hq
    refine ⟨fun _ => ?_, fun h => absurd hlt (by omega)⟩
    repeat' (first | omega | refine And.intro ?_ ?_ | intro _)
    exact Again.mk (p + 1) (by omega) (by simp [hs, gen_succ, sumI_snoc]) (by first | omega | (simp; omega))
  · have : p = l.length := by omega
    subst this
    have hlb := left_bd (c := c) (l := partsL l) (by omega)
    have hle := left_eq (c := c) (l := partsL l) (by omega)
    simp at hle hlb
    have hr := rest_bd (c := c) (w := sumI (partsL l)) (l := partsL l) (by omega) l.length
    have e3 : (sumI (gen (rAt c (sumI (partsL l)) (partsL l)) l.length)).tdiv (sumI (partsL l)) = leftP c (partsL l) := by rw [← hle]; exact Int.tdiv_eq_ediv_of_nonneg hr.1
    simp [e3]
    refine ⟨by omega, ?_⟩
    refine loop_inv (fun j : Nat => (j : Int) ≤ leftP c (partsL l)) (fun j => [(1, .own (0, 0) 4 0 l.length), (62, dI (leftP c (partsL l))), (63, dI j)]) (fun j => [((0, 0), .arr false 4 yTPortion (ML encTPortion (gen (d3At c l j) l.length)))]) 2 (fun j => (leftP c (partsL l)).toNat - j) 0 400 (by simp) (by simp; omega) (by simp [d3_zero]) ?_
    intro j hj
    simp
    refine ⟨fun hlt => ?_, fun hge => ?_⟩
    · have hjl : j < l.length := by omega
      have hx := okPs_get hi (p := j) (by simp; omega)
      have hq := q_bd (c := c) (w := sumI (partsL l)) (l := partsL l) (i := j) hc.1 (by omega) hx.1
      have hcx : c * ((partsL l)[j]?.getD 0) ≤ 10000000 * 1000 := Int.mul_le_mul hc.2 hx.2 hx.1 (by omega)
      have hg : (gen (d3At c l j) l.length)[j]?.getD default = ⟨⟨(l[j]?.getD default).Share.Who, qAt c (sumI (partsL l)) (partsL l) j⟩, (l[j]?.getD default).part_, rAt c (sumI (partsL l)) (partsL l) j⟩ := by rw [gen_get hjl]; simp [d3At, incAt]
      have hs := d3_set (c := c) hjl
      simp only [hg]
      repeat' (first | omega | refine And.intro ?_ ?_ | intro _)
      exact Again.mk (j + 1) (by omega) (by simp [hs]) (by first | omega | (simp; omega))
    · have hjl : (j : Int) = leftP c (partsL l) := by omega
      have e : gen (d3At c l j) l.length = mDiv c l := by
        simp only [gen, mDiv]; refine List.map_congr_left fun i _ => ?_
        simp only [d3At, dAt, incAt, sAt, ← hjl, Int.ofNat_lt]
      simp [e]
theorem c21_ok : c21.ok Try.prog := mkCon_ok fun ⟨l, c⟩ hpre => c21_pc l c hpre
def portOf (x : Int) : TPortion := ⟨⟨0, 0⟩, x, 0⟩
theorem parts_port (l : List Int) : partsL (l.map portOf) = l := by
  simp only [partsL, List.map_map]; exact (List.map_congr_left fun x _ => rfl).trans (List.map_id l)
def centsOf (x : TPortion) : Int := x.Share.Cents
theorem div_cents (c : Int) (l : List Int) : (mDiv c (l.map portOf)).map centsOf = gen (sAt c l) l.length := by
  simp only [mDiv, gen, List.map_map, List.length_map]
  refine List.map_congr_left fun i _ => ?_
  simp only [Function.comp, centsOf, dAt, parts_port]
theorem mDiv_len (c : Int) (l : List TPortion) : (mDiv c l).length = l.length := by simp [mDiv]
theorem port_fill {l : List Int} {p : Nat} (h : p < l.length) : ((l.take p).map portOf ++ List.replicate (l.length - p) (portOf 0)).set p (portOf (l[p]?.getD 0)) = (l.take (p + 1)).map portOf ++ List.replicate (l.length - (p + 1)) (portOf 0) := by
  rw [List.set_append_right _ _ (by simp; omega)]
  have h1 : ((l.take p).map portOf).length = p := by simp; omega
  obtain ⟨k, hk⟩ : ∃ k, l.length - p = k + 1 := ⟨l.length - p - 1, by omega⟩
  have hk2 : l.length - (p + 1) = k := by omega
  rw [h1, Nat.sub_self, hk, hk2, List.replicate_succ, List.set_cons_zero, take_at (d := 0) h]; simp
theorem divide_port (c : Int) (l : List Int) : c21.fn [dI c, .own (0, 0) 4 0 l.length] [((0, 0), .arr false 4 yTPortion (ML encTPortion (l.map portOf)))] = some (kSplit c (partsL (l.map portOf)) = true, .tup [], [((0, 0), .arr false 4 yTPortion (ML encTPortion (mDiv c (l.map portOf))))]) := by
  have h := c21_fn (l := l.map portOf) (c := c)
  simpa using h
theorem div_get {c : Int} {l : List Int} {p : Nat} (h : p < l.length) : ((mDiv c (l.map portOf))[p]?.getD default).Share.Cents = sAt c l p := by
  rw [mDiv, gen_get (by simpa using h)]; simp [dAt, parts_port]
/-- loop.example/g03007/impl.SplitMoney -/
noncomputable def c6 : Con := mkCon 6 false (α := Int × (List Int)) (fun x => (fun (c : Int) (l : List Int) => [dI c, encLI l]) x.1 x.2) (fun _ => []) (fun x => (fun (c : Int) (l : List Int) => l.length ≤ 1073741823) x.1 x.2) (fun x => (fun (c : Int) (l : List Int) => (.own (0, 1) 1 0 (mSplit c l).length : D)) x.1 x.2) (fun x => (fun (c : Int) (l : List Int) => [((0, 1), .arr false 1 (dI 0) (ML dI (mSplit c l)))]) x.1 x.2)
@[simp] theorem c6_f : c6.f = 6 := rfl
@[simp] theorem c6_own : c6.own = false := rfl
theorem c6_inj : ∀ u_ v_ : Int × (List Int), ((fun x => (fun (c : Int) (l : List Int) => [dI c, encLI l]) x.1 x.2) u_).map nz = ((fun x => (fun (c : Int) (l : List Int) => [dI c, encLI l]) x.1 x.2) v_).map nz → u_ = v_ := by
  intro u_ v_ h
  obtain ⟨c, l⟩ := u_
  obtain ⟨c', l'⟩ := v_
  simp [nz_lit, nz1_lit, nz_agg, nz_sl, nz1_sl, encLI] at h
  first | (simp [h]; done) | (obtain ⟨⟩ := h; simp_all; done) | simp_all
@[simp] theorem c6_fn (c : Int) (l : List Int) : c6.fn [.lit (.int .i64 c), .sl false 1 (.lit (.int .i64 0)) (ML dI l)] [] = some ((fun (c : Int) (l : List Int) => l.length ≤ 1073741823) c l, (fun (c : Int) (l : List Int) => (.own (0, 1) 1 0 (mSplit c l).length : D)) c l, (fun (c : Int) (l : List Int) => [((0, 1), .arr false 1 (dI 0) (ML dI (mSplit c l)))]) c l) :=
  mkCon_fn (fun x y h _ => c6_inj x y h) ((c, l) : Int × (List Int)) (by simp [nz, nz1, ML_nil, encLI]) rfl
@[simp] theorem c6_fn1 (c : Int) (s_l : Nat) (z_l : D) : c6.fn [.lit (.int .i64 c), .sl false s_l z_l []] [] = some ((fun (c : Int) (l : List Int) => l.length ≤ 1073741823) c [], (fun (c : Int) (l : List Int) => (.own (0, 1) 1 0 (mSplit c l).length : D)) c [], (fun (c : Int) (l : List Int) => [((0, 1), .arr false 1 (dI 0) (ML dI (mSplit c l)))]) c []) :=
  mkCon_fn (fun x y h _ => c6_inj x y h) ((c, []) : Int × (List Int)) (by simp [nz, nz1, ML_nil, encLI]) rfl
theorem c6_pc (c : Int) (l : List Int) (hpre : l.length ≤ 1073741823) : PCo Try.prog 6 [dI c, encLI l] (Tab.of []) (.own (0, 1) 1 0 (mSplit c l).length) (Tab.of [((0, 1), .arr false 1 (dI 0) (ML dI (mSplit c l)))]) := by
  refine pco_of_run [] (E := ⟨[c19, c20, c21], [], []⟩) (m := false) (base := 0) (Env.ok_cons c19_ok (Env.ok_cons c20_ok (Env.ok_cons c21_ok Env.ok_nil))) G_ok mix 300 6 Try.func6 (by kernel_rfl) rfl (by kernel_rfl) (by kernel_rfl) rfl ?_
  cases hk : kSplit c l with
  | false =>
    have hm : mSplit c l = [] := by simp [mSplit, hk]
    simp [Try.f6, hm]
    refine ⟨fun _ => hpre, fun h1 h2 h3 h4 => ?_⟩
    exfalso
    have : kSplit c l = true := by simp [kSplit, h1, h2, h3, h4]
    rw [hk] at this; cases this
  | true =>
    have hm : mSplit c l = gen (sAt c l) l.length := by simp [mSplit, hk]
    have hk' := hk
    simp only [kSplit, Bool.and_eq_true, decide_eq_true_eq] at hk'
    obtain ⟨⟨⟨hk1, hi⟩, hk3⟩, hk4⟩ := hk'
    simp [Try.f6, hm, hk1, hi, hk3, hk4]
    refine ⟨by omega, by omega, ?_⟩
    refine loop_inv (fun p : Nat => p ≤ l.length) (fun p => [(0, dI c), (5, .own (0, 1) 4 0 l.length), (23, encLI l), (24, dI l.length), (25, dI p)]) (fun p => [((0, 1), .arr false 4 yTPortion (ML encTPortion ((l.take p).map portOf ++ List.replicate (l.length - p) (portOf 0))))]) 2 (fun p => l.length - p) 0 400 (by simp) (by simp) (by simp [portOf] <;> (simp only [ML, List.map_replicate] <;> rfl)) ?_
    intro p hp
    have hmin : min p l.length = p := by omega
    by_cases hlt : p < l.length
    · have hg : (List.map portOf (l.take p) ++ List.replicate (l.length - p) (portOf 0))[p]?.getD default = portOf 0 := by
        rw [List.getElem?_append_right (by simp; omega)]
        obtain ⟨k, hk⟩ : ∃ k, l.length - p = k + 1 := ⟨l.length - p - 1, by omega⟩
        simp [hk, hmin]
      have hs := port_fill hlt
      simp only [List.map_take, portOf] at hg hs
      simp [hg, portOf]
      refine ⟨fun _ => ?_, fun h => absurd hlt (by omega)⟩
      repeat' (first | omega | refine And.intro ?_ ?_ | intro _)
      refine Again.mk (p + 1) (by omega) ?_ (by first | omega | (simp; omega))
      simp [hs]
      try trace_state
    · have : p = l.length := by omega
      subst this
      simp [divide_port, parts_port, hk]
      refine loop_inv (fun p : Nat => p ≤ l.length) (fun p => [(8, .own (1, 1) 1 0 p), (40, .own (0, 1) 4 0 l.length), (41, dI l.length), (42, dI p)]) (fun p => [((0, 1), .arr false 4 yTPortion (ML encTPortion (mDiv c (l.map portOf)))), ((1, 1), .arr false 1 (dI 0) (ML dI (gen (sAt c l) p)))]) 2 (fun p => l.length - p) 0 400 (by simp) (by simp) (by simp) ?_
      intro p hp
      simp
      refine ⟨fun hlt => ?_, fun hge => ?_⟩
      · have hg := div_get (c := c) hlt
        simp only [hg]
        have hl := mDiv_len c (l.map portOf)
        simp at hl
        simp only [hl]
        repeat' (first | omega | refine And.intro ?_ ?_ | intro _)
        exact Again.mk (p + 1) (by omega) (by simp [gen_succ]) (by first | omega | (simp; omega))
      · have : p = l.length := by omega
        subst this
        simp
theorem c6_ok : c6.ok Try.prog := mkCon_ok fun ⟨c, l⟩ hpre => c6_pc c l hpre

end Go.Proofs.Ytanmlliijcpdjaa
