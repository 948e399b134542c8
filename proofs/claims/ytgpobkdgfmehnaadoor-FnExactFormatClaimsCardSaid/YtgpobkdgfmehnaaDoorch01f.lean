/- Contracts of the functions that the laws run. -/
import Derived.Test.YtgpobkdgfmehnaaDoorch01a
import Derived.Test.YtgpobkdgfmehnaaDoorShelf
import Derived.Test.YtgpobkdgfmehnaaDoorEngB
import Derived.Test.YtgpobkdgfmehnaaDoorEngB
namespace Go.Proofs.YtgpobkdgfmehnaaDoor
open Go Go.Eng
set_option linter.unusedSimpArgs false
set_option linter.unusedVariables false
set_option maxRecDepth 10000
set_option maxHeartbeats 1000000
def mInt (n : Int) : ByteArray := ⟨(Go.Lib.itoa n).toArray⟩
theorem dec_len {u : Nat} (h : u < 18446744073709551616) : 1 ≤ (Go.Lib.decDigits u).length ∧ (Go.Lib.decDigits u).length ≤ 20 := by
  rw [Go.Lib.decDigits_length]
  by_cases h0 : u = 0
  · subst h0; rw [Go.Lib.nDigits_small (by omega)]; omega
  · have := Go.Lib.numDigits_eq u (by omega) h
    have h2 := Go.Lib.nDigits_pos u
    split at this <;> omega
theorem bs_app (a b : List UInt8) : ((⟨a.toArray⟩ : ByteArray) ++ (⟨b.toArray⟩ : ByteArray)) = ⟨(a ++ b).toArray⟩ := by
  apply ByteArray.ext
  simp [ByteArray.data_append]
theorem bs_size (a : List UInt8) : (⟨a.toArray⟩ : ByteArray).size = a.length := by simp [ByteArray.size]
theorem mInt_size {n : Int} (h : -9223372036854775808 ≤ n ∧ n ≤ 9223372036854775807) : 1 ≤ (mInt n).size ∧ (mInt n).size ≤ 21 := by
  rw [mInt, bs_size, Go.Lib.itoa]
  split
  · have := dec_len (u := n.natAbs) (by omega); simp; omega
  · have := dec_len (u := n.toNat) (by omega); omega
/-- internal/strconv.Itoa -/
noncomputable def c20 : Con := mkCon 20 false (α := Int) (fun x => (fun (n : Int) => [dI n]) x) (fun _ => []) (fun x => (fun (n : Int) => -9223372036854775808 ≤ n ∧ n ≤ 9223372036854775807) x) (fun x => (fun (n : Int) => (dS (mInt n) : D)) x) (fun x => (fun (n : Int) => []) x)
@[simp] theorem c20_f : c20.f = 20 := rfl
@[simp] theorem c20_own : c20.own = false := rfl
theorem c20_inj : ∀ u_ v_ : Int, ((fun x => (fun (n : Int) => [dI n]) x) u_).map nz = ((fun x => (fun (n : Int) => [dI n]) x) v_).map nz → u_ = v_ := by
  intro u_ v_ h
  obtain n := u_
  obtain n' := v_
  simp [nz_lit, nz1_lit, nz_agg, nz_sl, nz1_sl] at h
  first | (simp [h]; done) | (obtain ⟨⟩ := h; simp_all; done) | simp_all
@[simp] theorem c20_fn (n : Int) : c20.fn [.lit (.int .i64 n)] [] = some ((fun (n : Int) => -9223372036854775808 ≤ n ∧ n ≤ 9223372036854775807) n, (fun (n : Int) => (dS (mInt n) : D)) n, (fun (n : Int) => []) n) :=
  mkCon_fn (fun x y h _ => c20_inj x y h) (n : Int) (by simp [nz, nz1, ML_nil]) rfl
theorem c20_pc (n : Int) (hpre : -9223372036854775808 ≤ n ∧ n ≤ 9223372036854775807) : PCo Tryd.prog 20 [dI n] (Tab.of []) (dS (mInt n)) (Tab.of []) := by
  refine pco_lit (enters_of_func Tryd.func20 (by kernel_rfl) (by kernel_rfl)) rfl fun w F vs G hr => ?_
  simp only [Reps, Rep] at hr
  obtain ⟨v, vs', rfl, rfl, rfl⟩ := hr
  refine (Tryd.internal_strconv_Itoa n hpre.1 hpre.2 w (G.tab (g := 0) rfl (by kernel_rfl))).mono ?_
  rintro e w' ⟨rfl, k, os, rfl⟩
  exact ⟨rfl, grown_drew w k os⟩
theorem c20_ok : c20.ok Tryd.prog := mkCon_ok fun n hpre => c20_pc n hpre
/-- strconv.Itoa -/
noncomputable def c19 : Con := mkCon 19 false (α := Int) (fun x => (fun (n : Int) => [dI n]) x) (fun _ => []) (fun x => (fun (n : Int) => -9223372036854775808 ≤ n ∧ n ≤ 9223372036854775807) x) (fun x => (fun (n : Int) => (dS (mInt n) : D)) x) (fun x => (fun (n : Int) => []) x)
@[simp] theorem c19_f : c19.f = 19 := rfl
@[simp] theorem c19_own : c19.own = false := rfl
theorem c19_inj : ∀ u_ v_ : Int, ((fun x => (fun (n : Int) => [dI n]) x) u_).map nz = ((fun x => (fun (n : Int) => [dI n]) x) v_).map nz → u_ = v_ := by
  intro u_ v_ h
  obtain n := u_
  obtain n' := v_
  simp [nz_lit, nz1_lit, nz_agg, nz_sl, nz1_sl] at h
  first | (simp [h]; done) | (obtain ⟨⟩ := h; simp_all; done) | simp_all
@[simp] theorem c19_fn (n : Int) : c19.fn [.lit (.int .i64 n)] [] = some ((fun (n : Int) => -9223372036854775808 ≤ n ∧ n ≤ 9223372036854775807) n, (fun (n : Int) => (dS (mInt n) : D)) n, (fun (n : Int) => []) n) :=
  mkCon_fn (fun x y h _ => c19_inj x y h) (n : Int) (by simp [nz, nz1, ML_nil]) rfl
theorem c19_pc (n : Int) (hpre : -9223372036854775808 ≤ n ∧ n ≤ 9223372036854775807) : PCo Tryd.prog 19 [dI n] (Tab.of []) (dS (mInt n)) (Tab.of []) := by
  refine pco_of_run [] (E := ⟨[c20], [], []⟩) (m := false) (base := 0) (Env.ok_cons c20_ok Env.ok_nil) G_ok mix 300 6 Tryd.func19 (by kernel_rfl) rfl (by kernel_rfl) (by kernel_rfl) rfl ?_
  simp [Tryd.f19]
  exact hpre
theorem c19_ok : c19.ok Tryd.prog := mkCon_ok fun n hpre => c19_pc n hpre
/-- loop.example/g03007/impl.FormatInt -/
noncomputable def c18 : Con := mkCon 18 false (α := Int) (fun x => (fun (n : Int) => [dI n]) x) (fun _ => []) (fun x => (fun (n : Int) => -9223372036854775808 ≤ n ∧ n ≤ 9223372036854775807) x) (fun x => (fun (n : Int) => (dS (mInt n) : D)) x) (fun x => (fun (n : Int) => []) x)
@[simp] theorem c18_f : c18.f = 18 := rfl
@[simp] theorem c18_own : c18.own = false := rfl
theorem c18_inj : ∀ u_ v_ : Int, ((fun x => (fun (n : Int) => [dI n]) x) u_).map nz = ((fun x => (fun (n : Int) => [dI n]) x) v_).map nz → u_ = v_ := by
  intro u_ v_ h
  obtain n := u_
  obtain n' := v_
  simp [nz_lit, nz1_lit, nz_agg, nz_sl, nz1_sl] at h
  first | (simp [h]; done) | (obtain ⟨⟩ := h; simp_all; done) | simp_all
@[simp] theorem c18_fn (n : Int) : c18.fn [.lit (.int .i64 n)] [] = some ((fun (n : Int) => -9223372036854775808 ≤ n ∧ n ≤ 9223372036854775807) n, (fun (n : Int) => (dS (mInt n) : D)) n, (fun (n : Int) => []) n) :=
  mkCon_fn (fun x y h _ => c18_inj x y h) (n : Int) (by simp [nz, nz1, ML_nil]) rfl
theorem c18_pc (n : Int) (hpre : -9223372036854775808 ≤ n ∧ n ≤ 9223372036854775807) : PCo Tryd.prog 18 [dI n] (Tab.of []) (dS (mInt n)) (Tab.of []) := by
  refine pco_of_run [] (E := ⟨[c19], [], []⟩) (m := false) (base := 0) (Env.ok_cons c19_ok Env.ok_nil) G_ok mix 300 6 Tryd.func18 (by kernel_rfl) rfl (by kernel_rfl) (by kernel_rfl) rfl ?_
  simp [Tryd.f18]
  exact hpre
theorem c18_ok : c18.ok Tryd.prog := mkCon_ok fun n hpre => c18_pc n hpre
def restD (x : Int) : List UInt8 := if x = 0 then [] else Go.Lib.decDigits x.natAbs
theorem restD_step {x : Int} (h : x ≠ 0) : restD x = restD (x.tdiv 10) ++ [UInt8.ofNat (48 + x.natAbs % 10)] := by
  have e1 : (x.tdiv 10).natAbs = x.natAbs / 10 := Int.natAbs_tdiv x 10
  have e2 : (x.tdiv 10 = 0) ↔ x.natAbs < 10 := by
    rw [← Int.natAbs_eq_zero, e1]; omega
  rw [restD, if_neg h, restD, e1]
  by_cases h2 : x.natAbs < 10
  · rw [if_pos (e2.2 h2), Go.Lib.decDigits, dif_pos h2, Nat.mod_eq_of_lt h2]; rfl
  · rw [if_neg (fun e => h2 (e2.1 e)), Go.Lib.decDigits, dif_neg h2]
theorem wrap_digit {d : Int} (h : 0 ≤ d ∧ d < 10) : IntKind.u8.wrap (48 + d) = 48 + d := by
  simp [IntKind.wrap, IntKind.bits, IntKind.signed]; omega
theorem tmod_abs (x : Int) : (x.tmod 10 < 0 → -x.tmod 10 = ((x.natAbs % 10 : Nat) : Int)) ∧ (0 ≤ x.tmod 10 → x.tmod 10 = ((x.natAbs % 10 : Nat) : Int)) := by
  have h := Int.natAbs_tmod x 10
  have e : (10 : Int).natAbs = 10 := rfl
  rw [e] at h
  refine ⟨fun h2 => ?_, fun h2 => ?_⟩ <;> omega
/-- loop.example/g03007/spec.FormatInt -/
noncomputable def c10 : Con := mkCon 10 false (α := Int) (fun x => (fun (n : Int) => [dI n]) x) (fun _ => []) (fun x => (fun (n : Int) => -9223372036854775808 ≤ n ∧ n ≤ 9223372036854775807) x) (fun x => (fun (n : Int) => (dS (mInt n) : D)) x) (fun x => (fun (n : Int) => []) x)
@[simp] theorem c10_f : c10.f = 10 := rfl
@[simp] theorem c10_own : c10.own = false := rfl
theorem c10_inj : ∀ u_ v_ : Int, ((fun x => (fun (n : Int) => [dI n]) x) u_).map nz = ((fun x => (fun (n : Int) => [dI n]) x) v_).map nz → u_ = v_ := by
  intro u_ v_ h
  obtain n := u_
  obtain n' := v_
  simp [nz_lit, nz1_lit, nz_agg, nz_sl, nz1_sl] at h
  first | (simp [h]; done) | (obtain ⟨⟩ := h; simp_all; done) | simp_all
@[simp] theorem c10_fn (n : Int) : c10.fn [.lit (.int .i64 n)] [] = some ((fun (n : Int) => -9223372036854775808 ≤ n ∧ n ≤ 9223372036854775807) n, (fun (n : Int) => (dS (mInt n) : D)) n, (fun (n : Int) => []) n) :=
  mkCon_fn (fun x y h _ => c10_inj x y h) (n : Int) (by simp [nz, nz1, ML_nil]) rfl
theorem c10_pc (n : Int) (hpre : -9223372036854775808 ≤ n ∧ n ≤ 9223372036854775807) : PCo Tryd.prog 10 [dI n] (Tab.of []) (dS (mInt n)) (Tab.of []) := by
  refine pco_of_run [] (E := ⟨[], [], []⟩) (m := false) (base := 0) Env.ok_nil G_ok mix 300 6 Tryd.func10 (by kernel_rfl) rfl (by kernel_rfl) (by kernel_rfl) rfl ?_
  by_cases h0 : n = 0
  · subst h0
    have e : mInt 0 = ⟨#[48]⟩ := by simp [mInt, Go.Lib.itoa, Go.Lib.decDigits]
    simp [Tryd.f10, e]
  simp [Tryd.f10, h0]
  refine loop_inv (fun q : Int × List UInt8 => q.1.natAbs ≤ n.natAbs ∧ Go.Lib.decDigits n.natAbs = restD q.1 ++ q.2) (fun q => [(0, dI n), (3, dS ⟨q.2.toArray⟩), (4, dI q.1)]) (fun _ => []) 1 (fun q => q.1.natAbs) (n, []) 400 (by simp) (by simp [restD, h0]) (by simp) ?_
  intro ⟨x, s⟩ ⟨hx, he⟩
  simp only at hx he
  have hl := congrArg List.length he
  have hn := dec_len (u := n.natAbs) (by omega)
  rw [List.length_append] at hl
  have hd := tmod_abs x
  have hq : (x.tdiv 10).natAbs = x.natAbs / 10 := Int.natAbs_tdiv x 10
  have hm : x.natAbs % 10 < 10 := Nat.mod_lt _ (by omega)
  have hap : ∀ c : UInt8, (({ data := #[c] } : ByteArray) ++ { data := s.toArray }) = ⟨(c :: s).toArray⟩ := fun c => bs_app [c] s
  have hz : ∀ c : UInt8, ({ data := #[c] } : ByteArray).size = 1 := fun c => rfl
  have hstep : ∀ d : Int, d = ((x.natAbs % 10 : Nat) : Int) → UInt8.ofNat (IntKind.u8.wrap (48 + d)).toNat = UInt8.ofNat (48 + x.natAbs % 10) := fun d e => by
    rw [wrap_digit (by omega), e]; congr 1
  simp [hap, hz, bs_size]
  refine ⟨fun hx0 => ?_, fun hx0 => ?_⟩
  · subst hx0
    have hs : s = Go.Lib.decDigits n.natAbs := by simpa [restD] using he.symm
    subst hs
    refine ⟨fun hn0 => ⟨by omega, ?_⟩, fun hn0 => ?_⟩
    · simp [mInt, Go.Lib.itoa, hn0]
    · have : ¬ n < 0 := by omega
      have e2 : n.natAbs = n.toNat := by omega
      simp [mInt, Go.Lib.itoa, this, e2]
  · have hr := restD_step hx0
    have hlt : (x.tdiv 10).natAbs < x.natAbs := by rw [hq]; omega
    refine ⟨fun h1 => ?_, fun h1 => ?_⟩
    · have hc := hstep _ (hd.1 h1)
      have hdd := hd.1 h1
      rw [hc]
      generalize UInt8.ofNat (48 + x.natAbs % 10) = C at hr
      repeat' (first | omega | refine And.intro ?_ ?_ | intro _)
      exact Again.mk (x.tdiv 10, C :: s) ⟨by simp only; omega, by simp only; rw [he, hr]; simp⟩ (by simp) (by simp only; omega)
    · have hc := hstep _ (hd.2 h1)
      have hdd := hd.2 h1
      rw [hc]
      generalize UInt8.ofNat (48 + x.natAbs % 10) = C at hr
      repeat' (first | omega | refine And.intro ?_ ?_ | intro _)
      exact Again.mk (x.tdiv 10, C :: s) ⟨by simp only; omega, by simp only; rw [he, hr]; simp⟩ (by simp) (by simp only; omega)
theorem c10_ok : c10.ok Tryd.prog := mkCon_ok fun n hpre => c10_pc n hpre
end Go.Proofs.YtgpobkdgfmehnaaDoor
