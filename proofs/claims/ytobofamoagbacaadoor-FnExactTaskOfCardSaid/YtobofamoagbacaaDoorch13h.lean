/- Contracts of the functions that the laws run. -/
import Derived.Test.YtobofamoagbacaaDoorch13g
import Derived.Test.YtobofamoagbacaaDoorEngB
namespace Go.Proofs.YtobofamoagbacaaDoor
open Go Go.Eng
set_option linter.unusedSimpArgs false
set_option linter.unusedVariables false
set_option maxRecDepth 10000
set_option maxHeartbeats 1000000
abbrev mk_TClaim : Int → TClaim := fun n => ⟨n, n + 1, n + 2, n + 3, n + 4⟩
/-- loop.example/g03007/laws.markClaimS -/
noncomputable def c45 : Con := mkCon 45 true (α := (List TClaim) × Int) (fun x => (fun (l : List TClaim) (k : Int) => ([.own (0, 0) 5 0 l.length, dI k] : List D)) x.1 x.2) (fun x => (fun (l : List TClaim) (k : Int) => ([((0, 0), .arr false 5 yTClaim (ML encTClaim l))] : List (Nm × OO))) x.1 x.2) (fun x => (fun (l : List TClaim) (k : Int) => l.length ≤ 1099511627776 ∧ 0 ≤ k ∧ k ≤ 1152921504606846976) x.1 x.2) (fun x => (fun (l : List TClaim) (k : Int) => (dI (k + 5 * l.length) : D)) x.1 x.2) (fun x => (fun (l : List TClaim) (k : Int) => ([((0, 0), .arr false 5 yTClaim (ML encTClaim (mkL mk_TClaim 5 k l.length)))] : List (Nm × OO))) x.1 x.2)
@[simp] theorem c45_f : c45.f = 45 := rfl
@[simp] theorem c45_own : c45.own = true := rfl
theorem c45_inj : ∀ u_ v_ : (List TClaim) × Int, ((fun x => (fun (l : List TClaim) (k : Int) => ([.own (0, 0) 5 0 l.length, dI k] : List D)) x.1 x.2) u_).map nz = ((fun x => (fun (l : List TClaim) (k : Int) => ([.own (0, 0) 5 0 l.length, dI k] : List D)) x.1 x.2) v_).map nz → (fun x => (fun (l : List TClaim) (k : Int) => ([((0, 0), .arr false 5 yTClaim (ML encTClaim l))] : List (Nm × OO))) x.1 x.2) u_ = (fun x => (fun (l : List TClaim) (k : Int) => ([((0, 0), .arr false 5 yTClaim (ML encTClaim l))] : List (Nm × OO))) x.1 x.2) v_ → u_ = v_ := by
  intro u_ v_ h h2_
  obtain ⟨l, k⟩ := u_
  obtain ⟨l', k'⟩ := v_
  simp [nz_lit, nz1_lit, nz_agg, nz_sl, nz1_sl, nz_sx, nz_el, nz1_el, nz_own, nz1_own, nz_ptr, nz_fn, nz_iface] at h h2_
  first | (simp [h, h2_]; done) | (obtain ⟨h3_, h4_⟩ := List.append_inj h2_ h.1; simp_all; done) | simp_all | grind
@[simp] theorem c45_fn (l : List TClaim) (k : Int) : c45.fn ([.own (0, 0) 5 0 l.length, dI k]) ([((0, 0), .arr false 5 yTClaim (ML encTClaim l))]) = some (l.length ≤ 1099511627776 ∧ 0 ≤ k ∧ k ≤ 1152921504606846976, dI (k + 5 * l.length), [((0, 0), .arr false 5 yTClaim (ML encTClaim (mkL mk_TClaim 5 k l.length)))]) :=
  mkCon_fn c45_inj ((l, k) : (List TClaim) × Int) rfl rfl
theorem c45_pc (l : List TClaim) (k : Int) (hpre : l.length ≤ 1099511627776 ∧ 0 ≤ k ∧ k ≤ 1152921504606846976) : PCo Tryd.prog 45 ([.own (0, 0) 5 0 l.length, dI k]) (Tab.of ([((0, 0), .arr false 5 yTClaim (ML encTClaim l))])) (dI (k + 5 * l.length)) (Tab.of ([((0, 0), .arr false 5 yTClaim (ML encTClaim (mkL mk_TClaim 5 k l.length)))])) := by
  refine pco_of_run [] (E := ⟨[], []⟩) (m := false) (base := 0) Env.ok_nil G_ok mix 300 6 Tryd.func45 (by kernel_rfl) rfl (by kernel_rfl) (by kernel_rfl) rfl ?_
  simp [Tryd.f45]
  obtain ⟨pre1, pre2, pre3⟩ := hpre
  refine loop_inv (fun p : Nat => p ≤ l.length) (fun p => [(0, .own (0, 0) 5 0 l.length), (1, dI (k + 5 * p)), (5, dI p)]) (fun p => [((0, 0), .arr false 5 yTClaim (ML encTClaim (mkL mk_TClaim 5 k p ++ l.drop p)))]) 2 (fun p => l.length - p) 0 100 (by simp) (by simp) (by simp) ?_
  intro p hp
  simp
  have hs : ∀ x, x = mk_TClaim (k + 5 * (p : Int)) → p < l.length → mkL mk_TClaim 5 k p ++ (l.drop p).set 0 x = mkL mk_TClaim 5 k (p + 1) ++ l.drop (p + 1) := fun x hx hlt => mark_step0 hlt hx
  refine ⟨fun hlt => ?_, fun hge => ?_⟩
  · repeat' (first | omega | refine And.intro ?_ ?_ | intro _)
    all_goals refine Again.mk (p + 1) (by omega) ?_ (by first | omega | (simp; omega))
    all_goals (rw [hs _ (by simp [mark_get0 hlt, mark_get hlt]; first | done | omega) hlt]; simp; omega)
  have : p = l.length := by omega
  subst this
  simp
  trace_state
theorem c45_ok : c45.ok Tryd.prog := mkCon_ok fun ⟨l, k⟩ hpre => c45_pc l k hpre
def thIs (k : Int) (x : TClaim) : Bool := decide (kTh x = k)
theorem bk_get (l : List TClaim) (k : Int) : getG (bkC l) k = l.filter (thIs k) := by rw [bkC, getG_grp]; rfl
def mClaimsFor (l : List TClaim) (k : Int) : List Int := pick (thIs k) nClaim l
theorem mClaimsFor_len (l : List TClaim) (k : Int) : (mClaimsFor l k).length ≤ l.length := pick_len l
def stepP (o : Option TClaim) (x : TClaim) : Option TClaim := if stateIs 1 x && (match o with | none => true | some y => decide (x.At < y.At)) then some x else o
theorem stepP_none_yes {x : TClaim} (h1 : x.State = 1) : stepP none x = some x := by simp [stepP, stateIs, h1]
theorem stepP_none_no {x : TClaim} (h1 : ¬ x.State = 1) : stepP none x = none := by simp [stepP, stateIs, h1]
theorem stepP_yes {x y : TClaim} (h1 : x.State = 1) (h2 : x.At < y.At) : stepP (some y) x = some x := by simp [stepP, stateIs, h1, h2]
theorem stepP_no {x y : TClaim} (h : x.State = 1 → y.At ≤ x.At) : stepP (some y) x = some y := by
  by_cases h1 : x.State = 1
  · have := h h1
    simp [stepP, stateIs, h1]; omega
  · simp [stepP, stateIs, h1]
def firstC (l : List TClaim) (k : Int) : Option TClaim := (l.filter (thIs k)).foldl stepP none
def mFirst (l : List TClaim) (k : Int) : Int := match firstC l k with | none => 0 | some x => x.Id
def ptrO : Option TClaim → D
  | none => .lit (.pointer none)
  | some x => .el (encTClaim x)
@[simp] theorem ptrO_none : ptrO none = .lit (.pointer none) := rfl
@[simp] theorem ptrO_some (x : TClaim) : ptrO (some x) = .el (encTClaim x) := rfl
/-- loop.example/g03007/impl.FirstProved -/
noncomputable def c116 : Con := mkCon 116 false (α := (List TClaim) × Int) (fun x => (fun (l : List TClaim) (k : Int) => [encLTClaim l, dI k]) x.1 x.2) (fun _ => []) (fun x => (fun (l : List TClaim) (k : Int) => l.length ≤ 1073741823) x.1 x.2) (fun x => (fun (l : List TClaim) (k : Int) => (dI (mFirst l k) : D)) x.1 x.2) (fun x => (fun (l : List TClaim) (k : Int) => []) x.1 x.2)
@[simp] theorem c116_f : c116.f = 116 := rfl
@[simp] theorem c116_own : c116.own = false := rfl
theorem c116_inj : ∀ u_ v_ : (List TClaim) × Int, ((fun x => (fun (l : List TClaim) (k : Int) => [encLTClaim l, dI k]) x.1 x.2) u_).map nz = ((fun x => (fun (l : List TClaim) (k : Int) => [encLTClaim l, dI k]) x.1 x.2) v_).map nz → u_ = v_ := by
  intro u_ v_ h
  obtain ⟨l, k⟩ := u_
  obtain ⟨l', k'⟩ := v_
  simp [nz_lit, nz1_lit, nz_agg, nz_sl, nz1_sl, encLTClaim] at h
  first | (simp [h]; done) | (obtain ⟨⟩ := h; simp_all; done) | simp_all
@[simp] theorem c116_fn (l : List TClaim) (k : Int) : c116.fn [.sl false 5 yTClaim (ML encTClaim l), .lit (.int .i64 k)] [] = some ((fun (l : List TClaim) (k : Int) => l.length ≤ 1073741823) l k, (fun (l : List TClaim) (k : Int) => (dI (mFirst l k) : D)) l k, (fun (l : List TClaim) (k : Int) => []) l k) :=
  mkCon_fn (fun x y h _ => c116_inj x y h) ((l, k) : (List TClaim) × Int) (by simp [nz, nz1, ML_nil, encLTClaim]) rfl
@[simp] theorem c116_fn1 (s_l : Nat) (z_l : D) (k : Int) : c116.fn [.sl false s_l z_l [], .lit (.int .i64 k)] [] = some ((fun (l : List TClaim) (k : Int) => l.length ≤ 1073741823) [] k, (fun (l : List TClaim) (k : Int) => (dI (mFirst l k) : D)) [] k, (fun (l : List TClaim) (k : Int) => []) [] k) :=
  mkCon_fn (fun x y h _ => c116_inj x y h) (([], k) : (List TClaim) × Int) (by simp [nz, nz1, ML_nil, encLTClaim]) rfl
theorem c116_pc (l : List TClaim) (k : Int) (hpre : l.length ≤ 1073741823) : PCo Tryd.prog 116 [encLTClaim l, dI k] (Tab.of []) (dI (mFirst l k)) (Tab.of []) := by
  refine pco_of_run [] (E := ⟨[c117], []⟩) (m := false) (base := 0) (Env.ok_cons c117_ok Env.ok_nil) G_ok mix 300 6 Tryd.func116 (by kernel_rfl) rfl (by kernel_rfl) (by kernel_rfl) rfl ?_
  simp [Tryd.f116]
  have hb := getC_len l k
  rw [show mFirst l k = (match (getG (bkC l) k).foldl stepP none with | none => 0 | some x => x.Id) by rw [bk_get]; rfl]
  generalize getG (bkC l) k = r at hb ⊢
  refine ⟨hpre, ?_⟩
  refine loop_inv (fun p : Nat × Option TClaim => p.1 ≤ r.length ∧ (r.take p.1).foldl stepP none = p.2) (fun p => [(5, ptrO p.2), (14, encLTClaim r), (15, dI r.length), (16, dI p.1)]) (fun _ => []) 1 (fun p => r.length - p.1) (0, none) 400 (by simp) (by simp) (by simp) ?_
  intro ⟨p, o⟩ ⟨hp, ho⟩
  simp only at hp ho
  cases o with
  | none =>
    simp
    refine ⟨fun hlt => ?_, fun hge => ?_⟩
    · have hs := foldl_at (f := stepP) (s := none) (d := default) hlt
      rw [ho] at hs
      repeat' (first | omega | refine And.intro ?_ ?_ | intro _)
      · rename_i hw
        refine Again.mk (p + 1, some (r[p]?.getD default)) ⟨by simp; omega, by simp only [hs]; simp [stepP, stateIs, hw]⟩ (by simp) (by first | omega | (simp; omega))
      · rename_i hw
        refine Again.mk (p + 1, none) ⟨by simp; omega, by simp only [hs]; simp [stepP, stateIs, hw]⟩ (by simp) (by first | omega | (simp; omega))
    · rw [List.take_of_length_le hge] at ho
      rw [ho]
  | some y =>
    simp
    refine ⟨fun hlt => ?_, fun hge => ?_⟩
    · have hs := foldl_at (f := stepP) (s := none) (d := default) hlt
      rw [ho] at hs
      refine ⟨hlt, fun h1 h2 => ⟨by omega, ?_⟩, fun h1 => ⟨by omega, ?_⟩⟩
      · exact Again.mk (p + 1, some (r[p]?.getD default)) ⟨by simp; omega, by simp only [hs]; simp [stepP, stateIs, h1, h2]⟩ (by simp) (by first | omega | (simp; omega))
      · exact Again.mk (p + 1, some y) ⟨by simp; omega, by simp only [hs]; exact stepP_no h1⟩ (by simp) (by first | omega | (simp; omega))
    · rw [List.take_of_length_le hge] at ho
      rw [ho]
theorem c116_ok : c116.ok Tryd.prog := mkCon_ok fun ⟨l, k⟩ hpre => c116_pc l k hpre
/-- loop.example/g03007/spec.FirstProved -/
noncomputable def c74 : Con := mkCon 74 false (α := (List TClaim) × Int) (fun x => (fun (l : List TClaim) (k : Int) => [encLTClaim l, dI k]) x.1 x.2) (fun _ => []) (fun x => (fun (l : List TClaim) (k : Int) => l.length ≤ 1073741823) x.1 x.2) (fun x => (fun (l : List TClaim) (k : Int) => (dI (mFirst l k) : D)) x.1 x.2) (fun x => (fun (l : List TClaim) (k : Int) => []) x.1 x.2)
@[simp] theorem c74_f : c74.f = 74 := rfl
@[simp] theorem c74_own : c74.own = false := rfl
theorem c74_inj : ∀ u_ v_ : (List TClaim) × Int, ((fun x => (fun (l : List TClaim) (k : Int) => [encLTClaim l, dI k]) x.1 x.2) u_).map nz = ((fun x => (fun (l : List TClaim) (k : Int) => [encLTClaim l, dI k]) x.1 x.2) v_).map nz → u_ = v_ := by
  intro u_ v_ h
  obtain ⟨l, k⟩ := u_
  obtain ⟨l', k'⟩ := v_
  simp [nz_lit, nz1_lit, nz_agg, nz_sl, nz1_sl, encLTClaim] at h
  first | (simp [h]; done) | (obtain ⟨⟩ := h; simp_all; done) | simp_all
@[simp] theorem c74_fn (l : List TClaim) (k : Int) : c74.fn [.sl false 5 yTClaim (ML encTClaim l), .lit (.int .i64 k)] [] = some ((fun (l : List TClaim) (k : Int) => l.length ≤ 1073741823) l k, (fun (l : List TClaim) (k : Int) => (dI (mFirst l k) : D)) l k, (fun (l : List TClaim) (k : Int) => []) l k) :=
  mkCon_fn (fun x y h _ => c74_inj x y h) ((l, k) : (List TClaim) × Int) (by simp [nz, nz1, ML_nil, encLTClaim]) rfl
@[simp] theorem c74_fn1 (s_l : Nat) (z_l : D) (k : Int) : c74.fn [.sl false s_l z_l [], .lit (.int .i64 k)] [] = some ((fun (l : List TClaim) (k : Int) => l.length ≤ 1073741823) [] k, (fun (l : List TClaim) (k : Int) => (dI (mFirst l k) : D)) [] k, (fun (l : List TClaim) (k : Int) => []) [] k) :=
  mkCon_fn (fun x y h _ => c74_inj x y h) (([], k) : (List TClaim) × Int) (by simp [nz, nz1, ML_nil, encLTClaim]) rfl
theorem c74_pc (l : List TClaim) (k : Int) (hpre : l.length ≤ 1073741823) : PCo Tryd.prog 74 [encLTClaim l, dI k] (Tab.of []) (dI (mFirst l k)) (Tab.of []) := by
  refine pco_of_run [] (E := ⟨[], []⟩) (m := false) (base := 0) Env.ok_nil G_ok mix 300 6 Tryd.func74 (by kernel_rfl) rfl (by kernel_rfl) (by kernel_rfl) rfl ?_
  simp [Tryd.f74]
  refine loop_inv (fun p : Nat × Option Nat => p.1 ≤ l.length ∧ (∀ q, p.2 = some q → q < p.1) ∧ firstC (l.take p.1) k = p.2.map fun q => l[q]?.getD default) (fun p => [(0, encLTClaim l), (1, dI k), (5, dI (match p.2 with | none => -1 | some q => (q : Int))), (6, dI p.1)]) (fun _ => []) 1 (fun p => l.length - p.1) (0, none) 400 (by simp) (by simp [firstC]) (by simp) ?_
  intro ⟨p, o⟩ ⟨hp, ho, hf⟩
  simp only at hp ho hf
  have hst : p < l.length → firstC (l.take (p + 1)) k = if thIs k (l[p]?.getD default) then stepP (firstC (l.take p) k) (l[p]?.getD default) else firstC (l.take p) k := fun hlt => by
    simp only [firstC]
    rw [take_at (d := default) hlt, List.filter_append, List.foldl_append]
    by_cases h : thIs k (l[p]?.getD default) = true
    · simp [List.filter, h]
    · simp [List.filter, h]
  cases o with
  | none =>
    simp only [Option.map_none] at hf
    rw [hf] at hst
    simp
    refine ⟨fun hlt => ?_, fun hge => ?_⟩
    · have hs := hst hlt
      have hth : ∀ (b : Bool), decide ((l[p]?.getD default).Thing = k) = b → thIs k (l[p]?.getD default) = b := fun b h => h
      refine ⟨⟨hlt, fun _ => hlt⟩, fun h1 h2 => ⟨by omega, ?_⟩, fun h1 => ⟨by omega, ?_⟩⟩
      · rw [hth true (by simp [h1]), if_pos rfl, stepP_none_yes h2] at hs
        exact Again.mk (p + 1, some p) ⟨by simp; omega, by simp, by simp [hs]⟩ (by simp) (by first | omega | (simp; omega))
      · have h3 : firstC (l.take (p + 1)) k = none := by
          rw [hs]
          by_cases h4 : (l[p]?.getD default).Thing = k
          · rw [if_pos (hth true (by simp [h4]))]; exact stepP_none_no (h1 h4)
          · rw [if_neg (by rw [hth false (by simp [h4])]; simp)]
        exact Again.mk (p + 1, none) ⟨by simp; omega, by simp, by simp [h3]⟩ (by simp) (by first | omega | (simp; omega))
    · rw [List.take_of_length_le hge] at hf
      rw [mFirst, hf]
  | some q =>
    have hq := ho q rfl
    simp only [Option.map_some] at hf
    rw [hf] at hst
    simp
    refine ⟨fun hlt => ?_, fun hge => ?_⟩
    · have hs := hst hlt
      have hth : ∀ (b : Bool), decide ((l[p]?.getD default).Thing = k) = b → thIs k (l[p]?.getD default) = b := fun b h => h
      refine ⟨⟨hlt, fun _ => hlt, fun _ _ => hlt, fun _ _ => by omega⟩, fun h1 h2 h3 => ⟨by omega, ?_⟩, fun h1 => ⟨by omega, ?_⟩⟩
      · rw [hth true (by simp [h1]), if_pos rfl, stepP_yes h2 (by omega)] at hs
        exact Again.mk (p + 1, some p) ⟨by simp; omega, by simp, by simp [hs]⟩ (by simp) (by first | omega | (simp; omega))
      · have h3 : firstC (l.take (p + 1)) k = some (l[q]?.getD default) := by
          rw [hs]
          by_cases h4 : (l[p]?.getD default).Thing = k
          · rw [if_pos (hth true (by simp [h4]))]; exact stepP_no fun h5 => (by have := h1 h4 h5; omega)
          · rw [if_neg (by rw [hth false (by simp [h4])]; simp)]
        exact Again.mk (p + 1, some q) ⟨by simp; omega, by simp; omega, by simp [h3]⟩ (by simp) (by first | omega | (simp; omega))
    · rw [List.take_of_length_le hge] at hf
      rw [mFirst, hf]
      exact ⟨fun h => by omega, by omega, rfl⟩
theorem c74_ok : c74.ok Tryd.prog := mkCon_ok fun ⟨l, k⟩ hpre => c74_pc l k hpre
end Go.Proofs.YtobofamoagbacaaDoor
