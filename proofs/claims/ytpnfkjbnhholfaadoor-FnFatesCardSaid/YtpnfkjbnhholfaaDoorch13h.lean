/- Contracts of the functions that the laws run. -/
import Derived.Test.YtpnfkjbnhholfaaDoorch13g
import Derived.Test.YtpnfkjbnhholfaaDoorEngB
namespace Go.Proofs.YtpnfkjbnhholfaaDoor
open Go Go.Eng
set_option linter.unusedSimpArgs false
set_option linter.unusedVariables false
set_option maxRecDepth 10000
set_option maxHeartbeats 1000000
def thIs (k : Int) (x : TClaim) : Bool := decide (kTh x = k)
theorem bk_get (l : List TClaim) (k : Int) : getG (bkC l) k = l.filter (thIs k) := by rw [bkC, getG_grp]; rfl
def mClaimsFor (l : List TClaim) (k : Int) : List Int := pick (thIs k) nClaim l
theorem mClaimsFor_len (l : List TClaim) (k : Int) : (mClaimsFor l k).length ≤ l.length := pick_len l
def stepP (o : Option TClaim) (x : TClaim) : Option TClaim := if stateIs 1 x && (match o with | none => true | some y => decide (x.At < y.At)) then some x else o
theorem stepP_none_yes {x : TClaim} (h1 : x.State = 1) : stepP none x = some x := by simp [stepP, stateIs, h1]
theorem stepP_none_no {x : TClaim} (h1 : ¬ x.State = 1) : stepP none x = none := by simp [stepP, stateIs, h1]
theorem stepP_yes {x y : TClaim} (h1 : x.State = 1) (h2 : x.At < y.At) : stepP (some y) x = some x := by simp [stepP, stateIs, h1, h2]
theorem stepP_no {x y : TClaim} (h : x.State = 1 → y.At ≤ x.At) : stepP (some y) x = some y := by
  by_cases h1 : x.State = 1
  · have := h h1
    simp [stepP, stateIs, h1]; omega
  · simp [stepP, stateIs, h1]
def firstC (l : List TClaim) (k : Int) : Option TClaim := (l.filter (thIs k)).foldl stepP none
def mFirst (l : List TClaim) (k : Int) : Int := match firstC l k with | none => 0 | some x => x.Id
def ptrO : Option TClaim → D
  | none => .lit (.pointer none)
  | some x => .el (encTClaim x)
@[simp] theorem ptrO_none : ptrO none = .lit (.pointer none) := rfl
@[simp] theorem ptrO_some (x : TClaim) : ptrO (some x) = .el (encTClaim x) := rfl
/-- loop.example/g03007/impl.FirstProved -/
noncomputable def c19 : Con := mkCon 19 false (α := (List TClaim) × Int) (fun x => (fun (l : List TClaim) (k : Int) => [encLTClaim l, dI k]) x.1 x.2) (fun _ => []) (fun x => (fun (l : List TClaim) (k : Int) => l.length ≤ 1073741823) x.1 x.2) (fun x => (fun (l : List TClaim) (k : Int) => (dI (mFirst l k) : D)) x.1 x.2) (fun x => (fun (l : List TClaim) (k : Int) => []) x.1 x.2)
@[simp] theorem c19_f : c19.f = 19 := rfl
@[simp] theorem c19_own : c19.own = false := rfl
theorem c19_inj : ∀ u_ v_ : (List TClaim) × Int, ((fun x => (fun (l : List TClaim) (k : Int) => [encLTClaim l, dI k]) x.1 x.2) u_).map nz = ((fun x => (fun (l : List TClaim) (k : Int) => [encLTClaim l, dI k]) x.1 x.2) v_).map nz → u_ = v_ := by
  intro u_ v_ h
  obtain ⟨l, k⟩ := u_
  obtain ⟨l', k'⟩ := v_
  simp [nz_lit, nz1_lit, nz_agg, nz_sl, nz1_sl, encLTClaim] at h
  first | (simp [h]; done) | (obtain ⟨⟩ := h; simp_all; done) | simp_all
@[simp] theorem c19_fn (l : List TClaim) (k : Int) : c19.fn [.sl false 5 yTClaim (ML encTClaim l), .lit (.int .i64 k)] [] = some ((fun (l : List TClaim) (k : Int) => l.length ≤ 1073741823) l k, (fun (l : List TClaim) (k : Int) => (dI (mFirst l k) : D)) l k, (fun (l : List TClaim) (k : Int) => []) l k) :=
  mkCon_fn (fun x y h _ => c19_inj x y h) ((l, k) : (List TClaim) × Int) (by simp [nz, nz1, ML_nil, encLTClaim]) rfl
@[simp] theorem c19_fn1 (s_l : Nat) (z_l : D) (k : Int) : c19.fn [.sl false s_l z_l [], .lit (.int .i64 k)] [] = some ((fun (l : List TClaim) (k : Int) => l.length ≤ 1073741823) [] k, (fun (l : List TClaim) (k : Int) => (dI (mFirst l k) : D)) [] k, (fun (l : List TClaim) (k : Int) => []) [] k) :=
  mkCon_fn (fun x y h _ => c19_inj x y h) (([], k) : (List TClaim) × Int) (by simp [nz, nz1, ML_nil, encLTClaim]) rfl
theorem c19_pc (l : List TClaim) (k : Int) (hpre : l.length ≤ 1073741823) : PCo Tryd.prog 19 [encLTClaim l, dI k] (Tab.of []) (dI (mFirst l k)) (Tab.of []) := by
  refine pco_of_run [] (E := ⟨[c39], [], []⟩) (m := false) (base := 0) (Env.ok_cons c39_ok Env.ok_nil) G_ok mix 300 6 Tryd.func19 (by kernel_rfl) rfl (by kernel_rfl) (by kernel_rfl) rfl ?_
  simp [Tryd.f19]
  have hb := getC_len l k
  rw [show mFirst l k = (match (getG (bkC l) k).foldl stepP none with | none => 0 | some x => x.Id) by rw [bk_get]; rfl]
  generalize getG (bkC l) k = r at hb ⊢
  refine ⟨hpre, ?_⟩
  refine loop_inv (fun p : Nat × Option TClaim => p.1 ≤ r.length ∧ (r.take p.1).foldl stepP none = p.2) (fun p => [(5, ptrO p.2), (14, encLTClaim r), (15, dI r.length), (16, dI p.1)]) (fun _ => []) 1 (fun p => r.length - p.1) (0, none) 400 (by simp) (by simp) (by simp) ?_
  intro ⟨p, o⟩ ⟨hp, ho⟩
  simp only at hp ho
  cases o with
  | none =>
    simp
    refine ⟨fun hlt => ?_, fun hge => ?_⟩
    · have hs := foldl_at (f := stepP) (s := none) (d := default) hlt
      rw [ho] at hs
      repeat' (first | omega | refine And.intro ?_ ?_ | intro _)
      · rename_i hw
        refine Again.mk (p + 1, some (r[p]?.getD default)) ⟨by simp; omega, by simp only [hs]; simp [stepP, stateIs, hw]⟩ (by simp) (by first | omega | (simp; omega))
      · rename_i hw
        refine Again.mk (p + 1, none) ⟨by simp; omega, by simp only [hs]; simp [stepP, stateIs, hw]⟩ (by simp) (by first | omega | (simp; omega))
    · rw [List.take_of_length_le hge] at ho
      rw [ho]
  | some y =>
    simp
    refine ⟨fun hlt => ?_, fun hge => ?_⟩
    · have hs := foldl_at (f := stepP) (s := none) (d := default) hlt
      rw [ho] at hs
      refine ⟨hlt, fun h1 h2 => ⟨by omega, ?_⟩, fun h1 => ⟨by omega, ?_⟩⟩
      · exact Again.mk (p + 1, some (r[p]?.getD default)) ⟨by simp; omega, by simp only [hs]; simp [stepP, stateIs, h1, h2]⟩ (by simp) (by first | omega | (simp; omega))
      · exact Again.mk (p + 1, some y) ⟨by simp; omega, by simp only [hs]; exact stepP_no h1⟩ (by simp) (by first | omega | (simp; omega))
    · rw [List.take_of_length_le hge] at ho
      rw [ho]
theorem c19_ok : c19.ok Tryd.prog := mkCon_ok fun ⟨l, k⟩ hpre => c19_pc l k hpre
end Go.Proofs.YtpnfkjbnhholfaaDoor
