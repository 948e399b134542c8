/- Contracts of the functions that the laws run. -/
import Derived.Test.YtojpebfoajeilaaDoorch01a
import Derived.Test.YtojpebfoajeilaaDoorShelf
import Derived.Test.YtojpebfoajeilaaDoorEngB
import Derived.Test.YtojpebfoajeilaaDoorEngB
namespace Go.Proofs.YtojpebfoajeilaaDoor
open Go Go.Eng
set_option linter.unusedSimpArgs false
set_option linter.unusedVariables false
set_option maxRecDepth 10000
set_option maxHeartbeats 1000000
def mInt (n : Int) : ByteArray := ⟨(Go.Lib.itoa n).toArray⟩
theorem dec_len {u : Nat} (h : u < 18446744073709551616) : 1 ≤ (Go.Lib.decDigits u).length ∧ (Go.Lib.decDigits u).length ≤ 20 := by
  rw [Go.Lib.decDigits_length]
  by_cases h0 : u = 0
  · subst h0; rw [Go.Lib.nDigits_small (by omega)]; omega
  · have := Go.Lib.numDigits_eq u (by omega) h
    have h2 := Go.Lib.nDigits_pos u
    split at this <;> omega
theorem bs_app (a b : List UInt8) : ((⟨a.toArray⟩ : ByteArray) ++ (⟨b.toArray⟩ : ByteArray)) = ⟨(a ++ b).toArray⟩ := by
  apply ByteArray.ext
  simp [ByteArray.data_append]
theorem bs_size (a : List UInt8) : (⟨a.toArray⟩ : ByteArray).size = a.length := by simp [ByteArray.size]
theorem mInt_size {n : Int} (h : -9223372036854775808 ≤ n ∧ n ≤ 9223372036854775807) : 1 ≤ (mInt n).size ∧ (mInt n).size ≤ 21 := by
  rw [mInt, bs_size, Go.Lib.itoa]
  split
  · have := dec_len (u := n.natAbs) (by omega); simp; omega
  · have := dec_len (u := n.toNat) (by omega); omega
/-- internal/strconv.Itoa -/
noncomputable def c41 : Con := mkCon 41 false (α := Int) (fun x => (fun (n : Int) => [dI n]) x) (fun _ => []) (fun x => (fun (n : Int) => -9223372036854775808 ≤ n ∧ n ≤ 9223372036854775807) x) (fun x => (fun (n : Int) => (dS (mInt n) : D)) x) (fun x => (fun (n : Int) => []) x)
@[simp] theorem c41_f : c41.f = 41 := rfl
@[simp] theorem c41_own : c41.own = false := rfl
theorem c41_inj : ∀ u_ v_ : Int, ((fun x => (fun (n : Int) => [dI n]) x) u_).map nz = ((fun x => (fun (n : Int) => [dI n]) x) v_).map nz → u_ = v_ := by
  intro u_ v_ h
  obtain n := u_
  obtain n' := v_
  simp [nz_lit, nz1_lit, nz_agg, nz_sl, nz1_sl] at h
  first | (simp [h]; done) | (obtain ⟨⟩ := h; simp_all; done) | simp_all
@[simp] theorem c41_fn (n : Int) : c41.fn [.lit (.int .i64 n)] [] = some ((fun (n : Int) => -9223372036854775808 ≤ n ∧ n ≤ 9223372036854775807) n, (fun (n : Int) => (dS (mInt n) : D)) n, (fun (n : Int) => []) n) :=
  mkCon_fn (fun x y h _ => c41_inj x y h) (n : Int) (by simp [nz, nz1, ML_nil]) rfl
theorem c41_pc (n : Int) (hpre : -9223372036854775808 ≤ n ∧ n ≤ 9223372036854775807) : PCo Tryd.prog 41 [dI n] (Tab.of []) (dS (mInt n)) (Tab.of []) := by
  refine pco_lit (enters_of_func Tryd.func41 (by kernel_rfl) (by kernel_rfl)) rfl fun w F vs G hr => ?_
  simp only [Reps, Rep] at hr
  obtain ⟨v, vs', rfl, rfl, rfl⟩ := hr
  refine (Tryd.internal_strconv_Itoa n hpre.1 hpre.2 w (G.tab (g := 1) rfl (by kernel_rfl))).mono ?_
  rintro e w' ⟨rfl, k, os, rfl⟩
  exact ⟨rfl, grown_drew w k os⟩
theorem c41_ok : c41.ok Tryd.prog := mkCon_ok fun n hpre => c41_pc n hpre
/-- strconv.Itoa -/
noncomputable def c35 : Con := mkCon 35 false (α := Int) (fun x => (fun (n : Int) => [dI n]) x) (fun _ => []) (fun x => (fun (n : Int) => -9223372036854775808 ≤ n ∧ n ≤ 9223372036854775807) x) (fun x => (fun (n : Int) => (dS (mInt n) : D)) x) (fun x => (fun (n : Int) => []) x)
@[simp] theorem c35_f : c35.f = 35 := rfl
@[simp] theorem c35_own : c35.own = false := rfl
theorem c35_inj : ∀ u_ v_ : Int, ((fun x => (fun (n : Int) => [dI n]) x) u_).map nz = ((fun x => (fun (n : Int) => [dI n]) x) v_).map nz → u_ = v_ := by
  intro u_ v_ h
  obtain n := u_
  obtain n' := v_
  simp [nz_lit, nz1_lit, nz_agg, nz_sl, nz1_sl] at h
  first | (simp [h]; done) | (obtain ⟨⟩ := h; simp_all; done) | simp_all
@[simp] theorem c35_fn (n : Int) : c35.fn [.lit (.int .i64 n)] [] = some ((fun (n : Int) => -9223372036854775808 ≤ n ∧ n ≤ 9223372036854775807) n, (fun (n : Int) => (dS (mInt n) : D)) n, (fun (n : Int) => []) n) :=
  mkCon_fn (fun x y h _ => c35_inj x y h) (n : Int) (by simp [nz, nz1, ML_nil]) rfl
theorem c35_pc (n : Int) (hpre : -9223372036854775808 ≤ n ∧ n ≤ 9223372036854775807) : PCo Tryd.prog 35 [dI n] (Tab.of []) (dS (mInt n)) (Tab.of []) := by
  refine pco_of_run [] (E := ⟨[c41], [], []⟩) (m := false) (base := 0) (Env.ok_cons c41_ok Env.ok_nil) G_ok mix 300 6 Tryd.func35 (by kernel_rfl) rfl (by kernel_rfl) (by kernel_rfl) rfl ?_
  simp [Tryd.f35]
  exact hpre
theorem c35_ok : c35.ok Tryd.prog := mkCon_ok fun n hpre => c35_pc n hpre
/-- loop.example/g03007/impl.FormatInt -/
noncomputable def c26 : Con := mkCon 26 false (α := Int) (fun x => (fun (n : Int) => [dI n]) x) (fun _ => []) (fun x => (fun (n : Int) => -9223372036854775808 ≤ n ∧ n ≤ 9223372036854775807) x) (fun x => (fun (n : Int) => (dS (mInt n) : D)) x) (fun x => (fun (n : Int) => []) x)
@[simp] theorem c26_f : c26.f = 26 := rfl
@[simp] theorem c26_own : c26.own = false := rfl
theorem c26_inj : ∀ u_ v_ : Int, ((fun x => (fun (n : Int) => [dI n]) x) u_).map nz = ((fun x => (fun (n : Int) => [dI n]) x) v_).map nz → u_ = v_ := by
  intro u_ v_ h
  obtain n := u_
  obtain n' := v_
  simp [nz_lit, nz1_lit, nz_agg, nz_sl, nz1_sl] at h
  first | (simp [h]; done) | (obtain ⟨⟩ := h; simp_all; done) | simp_all
@[simp] theorem c26_fn (n : Int) : c26.fn [.lit (.int .i64 n)] [] = some ((fun (n : Int) => -9223372036854775808 ≤ n ∧ n ≤ 9223372036854775807) n, (fun (n : Int) => (dS (mInt n) : D)) n, (fun (n : Int) => []) n) :=
  mkCon_fn (fun x y h _ => c26_inj x y h) (n : Int) (by simp [nz, nz1, ML_nil]) rfl
theorem c26_pc (n : Int) (hpre : -9223372036854775808 ≤ n ∧ n ≤ 9223372036854775807) : PCo Tryd.prog 26 [dI n] (Tab.of []) (dS (mInt n)) (Tab.of []) := by
  refine pco_of_run [] (E := ⟨[c35], [], []⟩) (m := false) (base := 0) (Env.ok_cons c35_ok Env.ok_nil) G_ok mix 300 6 Tryd.func26 (by kernel_rfl) rfl (by kernel_rfl) (by kernel_rfl) rfl ?_
  simp [Tryd.f26]
  exact hpre
theorem c26_ok : c26.ok Tryd.prog := mkCon_ok fun n hpre => c26_pc n hpre
def restD (x : Int) : List UInt8 := if x = 0 then [] else Go.Lib.decDigits x.natAbs
theorem restD_step {x : Int} (h : x ≠ 0) : restD x = restD (x.tdiv 10) ++ [UInt8.ofNat (48 + x.natAbs % 10)] := by
  have e1 : (x.tdiv 10).natAbs = x.natAbs / 10 := Int.natAbs_tdiv x 10
  have e2 : (x.tdiv 10 = 0) ↔ x.natAbs < 10 := by
    rw [← Int.natAbs_eq_zero, e1]; omega
  rw [restD, if_neg h, restD, e1]
  by_cases h2 : x.natAbs < 10
  · rw [if_pos (e2.2 h2), Go.Lib.decDigits, dif_pos h2, Nat.mod_eq_of_lt h2]; rfl
  · rw [if_neg (fun e => h2 (e2.1 e)), Go.Lib.decDigits, dif_neg h2]
theorem wrap_digit {d : Int} (h : 0 ≤ d ∧ d < 10) : IntKind.u8.wrap (48 + d) = 48 + d := by
  simp [IntKind.wrap, IntKind.bits, IntKind.signed]; omega
theorem tmod_abs (x : Int) : (x.tmod 10 < 0 → -x.tmod 10 = ((x.natAbs % 10 : Nat) : Int)) ∧ (0 ≤ x.tmod 10 → x.tmod 10 = ((x.natAbs % 10 : Nat) : Int)) := by
  have h := Int.natAbs_tmod x 10
  have e : (10 : Int).natAbs = 10 := rfl
  rw [e] at h
  refine ⟨fun h2 => ?_, fun h2 => ?_⟩ <;> omega
end Go.Proofs.YtojpebfoajeilaaDoor
