/- Contracts of the functions that the laws run. -/
import Derived.Test.Ytmbgihklhmhilaach03
import Derived.Test.YtmbgihklhmhilaaEngB
namespace Go.Proofs.Ytmbgihklhmhilaa
open Go Go.Eng
set_option linter.unusedSimpArgs false
set_option linter.unusedVariables false
set_option maxRecDepth 10000
set_option maxHeartbeats 1000000
/-- slices.Grow[[]in -/
noncomputable def c271 : Con := mkCon 271 true (α := Int) (fun x => (fun (n : Int) => ([.sl true 0 .any [], dI n] : List D)) x) (fun x => (fun (n : Int) => ([] : List (Nm × OO))) x) (fun x => (fun (n : Int) => 0 < n ∧ n ≤ 1099511627776) x) (fun x => (fun (n : Int) => (.own (0, 1) 1 0 0 : D)) x) (fun x => (fun (n : Int) => ([((0, 1), .arr false 1 (dI 0) (ML dI (List.replicate n.toNat 0)))] : List (Nm × OO))) x)
@[simp] theorem c271_f : c271.f = 271 := rfl
@[simp] theorem c271_own : c271.own = true := rfl
theorem c271_inj : ∀ u_ v_ : Int, ((fun x => (fun (n : Int) => ([.sl true 0 .any [], dI n] : List D)) x) u_).map nz = ((fun x => (fun (n : Int) => ([.sl true 0 .any [], dI n] : List D)) x) v_).map nz → (fun x => (fun (n : Int) => ([] : List (Nm × OO))) x) u_ = (fun x => (fun (n : Int) => ([] : List (Nm × OO))) x) v_ → u_ = v_ := by
  intro u_ v_ h h2_
  obtain n := u_
  obtain n' := v_
  simp [nz_lit, nz1_lit, nz_agg, nz_sl, nz1_sl, nz_sx, nz_el, nz1_el, nz_own, nz1_own, nz_ptr, nz_fn, nz_iface] at h h2_
  first | (simp [h, h2_]; done) | (obtain ⟨h3_, h4_⟩ := List.append_inj h2_ h.1; simp_all; done) | simp_all | grind
@[simp] theorem c271_fn (n : Int) : c271.fn ([.sl true 0 .any [], dI n]) ([]) = some (0 < n ∧ n ≤ 1099511627776, .own (0, 1) 1 0 0, [((0, 1), .arr false 1 (dI 0) (ML dI (List.replicate n.toNat 0)))]) :=
  mkCon_fn c271_inj (n : Int) rfl rfl
theorem c271_pc (n : Int) (hpre : 0 < n ∧ n ≤ 1099511627776) : PCo Try.prog 271 ([.sl true 0 .any [], dI n]) (Tab.of ([])) (.own (0, 1) 1 0 0) (Tab.of ([((0, 1), .arr false 1 (dI 0) (ML dI (List.replicate n.toNat 0)))])) := by
  refine pco_of_run [] (E := ⟨[], []⟩) (m := false) (base := 0) Env.ok_nil G_ok mix 300 6 Try.func271 (by kernel_rfl) rfl (by kernel_rfl) (by kernel_rfl) rfl ?_
  simp [Try.f271]
  all_goals first | omega | (rw [Bool.eq_iff_iff]; simp; omega) | grind
theorem c271_ok : c271.ok Try.prog := mkCon_ok fun n hpre => c271_pc n hpre
/-- slices.Concat[[]in -/
noncomputable def c217 : Con := mkCon 217 false (α := (List Int) × (List Int) × (List Int)) (fun x => (fun (a : List Int) (b : List Int) (c : List Int) => ([.sx 1 [encLI a, encLI b, encLI c]] : List D)) x.1 x.2.1 x.2.2) (fun x => (fun (a : List Int) (b : List Int) (c : List Int) => ([] : List (Nm × OO))) x.1 x.2.1 x.2.2) (fun x => (fun (a : List Int) (b : List Int) (c : List Int) => 0 < a.length + b.length + c.length ∧ a.length ≤ 1073741824 ∧ b.length ≤ 1073741824 ∧ c.length ≤ 1073741824) x.1 x.2.1 x.2.2) (fun x => (fun (a : List Int) (b : List Int) (c : List Int) => (.own (0, 1) 1 0 (a.length + b.length + c.length) : D)) x.1 x.2.1 x.2.2) (fun x => (fun (a : List Int) (b : List Int) (c : List Int) => ([((0, 1), .arr false 1 (dI 0) (ML dI (a ++ b ++ c)))] : List (Nm × OO))) x.1 x.2.1 x.2.2)
@[simp] theorem c217_f : c217.f = 217 := rfl
@[simp] theorem c217_own : c217.own = false := rfl
theorem c217_inj : ∀ u_ v_ : (List Int) × (List Int) × (List Int), ((fun x => (fun (a : List Int) (b : List Int) (c : List Int) => ([.sx 1 [encLI a, encLI b, encLI c]] : List D)) x.1 x.2.1 x.2.2) u_).map nz = ((fun x => (fun (a : List Int) (b : List Int) (c : List Int) => ([.sx 1 [encLI a, encLI b, encLI c]] : List D)) x.1 x.2.1 x.2.2) v_).map nz → (fun x => (fun (a : List Int) (b : List Int) (c : List Int) => ([] : List (Nm × OO))) x.1 x.2.1 x.2.2) u_ = (fun x => (fun (a : List Int) (b : List Int) (c : List Int) => ([] : List (Nm × OO))) x.1 x.2.1 x.2.2) v_ → u_ = v_ := by
  intro u_ v_ h h2_
  obtain ⟨a, b, c⟩ := u_
  obtain ⟨a', b', c'⟩ := v_
  simp [nz_lit, nz1_lit, nz_agg, nz_sl, nz1_sl, nz_sx, nz_el, nz1_el, nz_own, nz1_own, nz_ptr, nz_fn, nz_iface] at h h2_
  first | (simp [h, h2_]; done) | (obtain ⟨h3_, h4_⟩ := List.append_inj h2_ h.1; simp_all; done) | simp_all | grind
@[simp] theorem c217_fn (a : List Int) (b : List Int) (c : List Int) : c217.fn ([.sx 1 [(.sl false 1 (.lit (.int .i64 0)) (ML dI a)), (.sl false 1 (.lit (.int .i64 0)) (ML dI b)), (.sl false 1 (.lit (.int .i64 0)) (ML dI c))]]) ([]) = some (0 < a.length + b.length + c.length ∧ a.length ≤ 1073741824 ∧ b.length ≤ 1073741824 ∧ c.length ≤ 1073741824, .own (0, 1) 1 0 (a.length + b.length + c.length), [((0, 1), .arr false 1 (dI 0) (ML dI (a ++ b ++ c)))]) :=
  mkCon_fn c217_inj ((a, b, c) : (List Int) × (List Int) × (List Int)) rfl rfl
theorem c217_pc (a : List Int) (b : List Int) (c : List Int) (hpre : 0 < a.length + b.length + c.length ∧ a.length ≤ 1073741824 ∧ b.length ≤ 1073741824 ∧ c.length ≤ 1073741824) : PCo Try.prog 217 ([.sx 1 [encLI a, encLI b, encLI c]]) (Tab.of ([])) (.own (0, 1) 1 0 (a.length + b.length + c.length)) (Tab.of ([((0, 1), .arr false 1 (dI 0) (ML dI (a ++ b ++ c)))])) := by
  refine pco_of_run [] (E := ⟨[c271], []⟩) (m := false) (base := 0) (Env.ok_cons c271_ok Env.ok_nil) G_ok mix 300 6 Try.func217 (by kernel_rfl) rfl (by kernel_rfl) (by kernel_rfl) rfl ?_
  simp [Try.f217]
  refine loop_unroll 400 ?_
  simp
  refine ⟨by omega, ⟨by omega, by omega⟩, by omega, fun _ => ⟨⟨by omega, by omega⟩, by omega, fun _ => ⟨⟨by omega, by omega⟩, ?_⟩⟩⟩
  refine loop_unroll 400 ?_
  simp
  omega
theorem c217_ok : c217.ok Try.prog := mkCon_ok fun ⟨a, b, c⟩ hpre => c217_pc a b c hpre
def mKeyed (k : Int) (l : List Int) : Int := mHash (k :: (l ++ [k]))
@[simp] theorem c217_fnk (k : Int) (l : List Int) : c217.fn [.sx 1 [.sl false 1 (.lit (.int .i64 0)) [dI k], .sl false 1 (.lit (.int .i64 0)) (ML dI l), .sl false 1 (.lit (.int .i64 0)) [dI k]]] [] = some (0 < 1 + l.length + 1 ∧ 1 ≤ 1073741824 ∧ l.length ≤ 1073741824 ∧ 1 ≤ 1073741824, .own (0, 1) 1 0 (1 + l.length + 1), [((0, 1), .arr false 1 (dI 0) (ML dI ([k] ++ l ++ [k])))]) := c217_fn [k] l [k]
/-- loop.example/g03007/spec.KeyedHash -/
noncomputable def c120 : Con := mkCon 120 false (α := Int × (List Int)) (fun x => (fun (k : Int) (l : List Int) => [dI k, encLI l]) x.1 x.2) (fun _ => []) (fun x => (fun (k : Int) (l : List Int) => l.length ≤ 1073741823) x.1 x.2) (fun x => (fun (k : Int) (l : List Int) => (dI (mKeyed k l) : D)) x.1 x.2) (fun x => (fun (k : Int) (l : List Int) => []) x.1 x.2)
@[simp] theorem c120_f : c120.f = 120 := rfl
@[simp] theorem c120_own : c120.own = false := rfl
theorem c120_inj : ∀ u_ v_ : Int × (List Int), ((fun x => (fun (k : Int) (l : List Int) => [dI k, encLI l]) x.1 x.2) u_).map nz = ((fun x => (fun (k : Int) (l : List Int) => [dI k, encLI l]) x.1 x.2) v_).map nz → u_ = v_ := by
  intro u_ v_ h
  obtain ⟨k, l⟩ := u_
  obtain ⟨k', l'⟩ := v_
  simp [nz_lit, nz1_lit, nz_agg, nz_sl, nz1_sl, encLI] at h
  first | (simp [h]; done) | (obtain ⟨⟩ := h; simp_all; done) | simp_all
@[simp] theorem c120_fn (k : Int) (l : List Int) : c120.fn [.lit (.int .i64 k), .sl false 1 (.lit (.int .i64 0)) (ML dI l)] [] = some ((fun (k : Int) (l : List Int) => l.length ≤ 1073741823) k l, (fun (k : Int) (l : List Int) => (dI (mKeyed k l) : D)) k l, (fun (k : Int) (l : List Int) => []) k l) :=
  mkCon_fn (fun x y h _ => c120_inj x y h) ((k, l) : Int × (List Int)) (by simp [nz, nz1, ML_nil, encLI]) rfl
@[simp] theorem c120_fn1 (k : Int) (s_l : Nat) (z_l : D) : c120.fn [.lit (.int .i64 k), .sl false s_l z_l []] [] = some ((fun (k : Int) (l : List Int) => l.length ≤ 1073741823) k [], (fun (k : Int) (l : List Int) => (dI (mKeyed k l) : D)) k [], (fun (k : Int) (l : List Int) => []) k []) :=
  mkCon_fn (fun x y h _ => c120_inj x y h) ((k, []) : Int × (List Int)) (by simp [nz, nz1, ML_nil, encLI]) rfl
theorem c120_pc (k : Int) (l : List Int) (hpre : l.length ≤ 1073741823) : PCo Try.prog 120 [dI k, encLI l] (Tab.of []) (dI (mKeyed k l)) (Tab.of []) := by
  refine pco_of_run [] (E := ⟨[c206], []⟩) (m := false) (base := 0) (Env.ok_cons c206_ok Env.ok_nil) G_ok mix 300 6 Try.func120 (by kernel_rfl) rfl (by kernel_rfl) (by kernel_rfl) rfl ?_
  simp [Try.f120]
  simp [mKeyed]
  omega
theorem c120_ok : c120.ok Try.prog := mkCon_ok fun ⟨k, l⟩ hpre => c120_pc k l hpre
def mInts (b : List Int) : List Int := (b.length : Int) :: b
def mDerive (k : Int) (b : ByteArray) : Int := max (mKeyed k (mInts (bytesI b))) 1
end Go.Proofs.Ytmbgihklhmhilaa
