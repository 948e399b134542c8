/- Contracts of the functions that the laws run. -/
import Derived.Test.Ytdccffbbkljkfaach03
import Derived.Test.YtdccffbbkljkfaaEngB
namespace Go.Proofs.Ytdccffbbkljkfaa
open Go Go.Eng
set_option linter.unusedSimpArgs false
set_option linter.unusedVariables false
set_option maxRecDepth 10000
/-- slices.Grow[[]in -/
noncomputable def c132 : Con := mkCon 132 true (α := Int) (fun x => (fun (n : Int) => ([.sl true 0 .any [], dI n] : List D)) x) (fun x => (fun (n : Int) => ([] : List (Nm × OO))) x) (fun x => (fun (n : Int) => 0 < n ∧ n ≤ 1099511627776) x) (fun x => (fun (n : Int) => (.own (0, 1) 1 0 0 : D)) x) (fun x => (fun (n : Int) => ([((0, 1), .arr false 1 (dI 0) (ML dI (List.replicate n.toNat 0)))] : List (Nm × OO))) x)
@[simp] theorem c132_f : c132.f = 132 := rfl
@[simp] theorem c132_own : c132.own = true := rfl
theorem c132_inj : ∀ u_ v_ : Int, ((fun x => (fun (n : Int) => ([.sl true 0 .any [], dI n] : List D)) x) u_).map nz = ((fun x => (fun (n : Int) => ([.sl true 0 .any [], dI n] : List D)) x) v_).map nz → (fun x => (fun (n : Int) => ([] : List (Nm × OO))) x) u_ = (fun x => (fun (n : Int) => ([] : List (Nm × OO))) x) v_ → u_ = v_ := by
  intro u_ v_ h h2_
  obtain n := u_
  obtain n' := v_
  simp [nz_lit, nz1_lit, nz_agg, nz_sl, nz1_sl, nz_sx, nz_el, nz1_el, nz_own, nz1_own, nz_ptr, nz_fn, nz_iface] at h h2_
  first | (simp [h, h2_]; done) | simp_all | grind
@[simp] theorem c132_fn (n : Int) : c132.fn ([.sl true 0 .any [], dI n]) ([]) = some (0 < n ∧ n ≤ 1099511627776, .own (0, 1) 1 0 0, [((0, 1), .arr false 1 (dI 0) (ML dI (List.replicate n.toNat 0)))]) :=
  mkCon_fn c132_inj (n : Int) rfl rfl
theorem c132_pc (n : Int) (hpre : 0 < n ∧ n ≤ 1099511627776) : PCo Try.prog 132 ([.sl true 0 .any [], dI n]) (Tab.of ([])) (.own (0, 1) 1 0 0) (Tab.of ([((0, 1), .arr false 1 (dI 0) (ML dI (List.replicate n.toNat 0)))])) := by
  refine pco_of_run [] (E := ⟨[], []⟩) (m := false) (base := 0) Env.ok_nil G_ok mix 300 6 Try.func132 (by kernel_rfl) rfl (by kernel_rfl) (by kernel_rfl) rfl ?_
  simp [Try.f132]
  all_goals first | omega | (rw [Bool.eq_iff_iff]; simp; omega) | grind
theorem c132_ok : c132.ok Try.prog := mkCon_ok fun n hpre => c132_pc n hpre
/-- slices.Concat[[]in -/
noncomputable def c123 : Con := mkCon 123 false (α := (List Int) × (List Int) × (List Int)) (fun x => (fun (a : List Int) (b : List Int) (c : List Int) => ([.sx 1 [encLI a, encLI b, encLI c]] : List D)) x.1 x.2.1 x.2.2) (fun x => (fun (a : List Int) (b : List Int) (c : List Int) => ([] : List (Nm × OO))) x.1 x.2.1 x.2.2) (fun x => (fun (a : List Int) (b : List Int) (c : List Int) => 0 < a.length + b.length + c.length ∧ a.length ≤ 1073741824 ∧ b.length ≤ 1073741824 ∧ c.length ≤ 1073741824) x.1 x.2.1 x.2.2) (fun x => (fun (a : List Int) (b : List Int) (c : List Int) => (.own (0, 1) 1 0 (a.length + b.length + c.length) : D)) x.1 x.2.1 x.2.2) (fun x => (fun (a : List Int) (b : List Int) (c : List Int) => ([((0, 1), .arr false 1 (dI 0) (ML dI (a ++ b ++ c)))] : List (Nm × OO))) x.1 x.2.1 x.2.2)
@[simp] theorem c123_f : c123.f = 123 := rfl
@[simp] theorem c123_own : c123.own = false := rfl
theorem c123_inj : ∀ u_ v_ : (List Int) × (List Int) × (List Int), ((fun x => (fun (a : List Int) (b : List Int) (c : List Int) => ([.sx 1 [encLI a, encLI b, encLI c]] : List D)) x.1 x.2.1 x.2.2) u_).map nz = ((fun x => (fun (a : List Int) (b : List Int) (c : List Int) => ([.sx 1 [encLI a, encLI b, encLI c]] : List D)) x.1 x.2.1 x.2.2) v_).map nz → (fun x => (fun (a : List Int) (b : List Int) (c : List Int) => ([] : List (Nm × OO))) x.1 x.2.1 x.2.2) u_ = (fun x => (fun (a : List Int) (b : List Int) (c : List Int) => ([] : List (Nm × OO))) x.1 x.2.1 x.2.2) v_ → u_ = v_ := by
  intro u_ v_ h h2_
  obtain ⟨a, b, c⟩ := u_
  obtain ⟨a', b', c'⟩ := v_
  simp [nz_lit, nz1_lit, nz_agg, nz_sl, nz1_sl, nz_sx, nz_el, nz1_el, nz_own, nz1_own, nz_ptr, nz_fn, nz_iface] at h h2_
  first | (simp [h, h2_]; done) | simp_all | grind
@[simp] theorem c123_fn (a : List Int) (b : List Int) (c : List Int) : c123.fn ([.sx 1 [encLI a, encLI b, encLI c]]) ([]) = some (0 < a.length + b.length + c.length ∧ a.length ≤ 1073741824 ∧ b.length ≤ 1073741824 ∧ c.length ≤ 1073741824, .own (0, 1) 1 0 (a.length + b.length + c.length), [((0, 1), .arr false 1 (dI 0) (ML dI (a ++ b ++ c)))]) :=
  mkCon_fn c123_inj ((a, b, c) : (List Int) × (List Int) × (List Int)) rfl rfl
theorem c123_pc (a : List Int) (b : List Int) (c : List Int) (hpre : 0 < a.length + b.length + c.length ∧ a.length ≤ 1073741824 ∧ b.length ≤ 1073741824 ∧ c.length ≤ 1073741824) : PCo Try.prog 123 ([.sx 1 [encLI a, encLI b, encLI c]]) (Tab.of ([])) (.own (0, 1) 1 0 (a.length + b.length + c.length)) (Tab.of ([((0, 1), .arr false 1 (dI 0) (ML dI (a ++ b ++ c)))])) := by
  refine pco_of_run [] (E := ⟨[c132], []⟩) (m := false) (base := 0) (Env.ok_cons c132_ok Env.ok_nil) G_ok mix 300 6 Try.func123 (by kernel_rfl) rfl (by kernel_rfl) (by kernel_rfl) rfl ?_
  simp [Try.f123]
  refine loop_unroll 400 ?_
  simp
  refine ⟨by omega, ⟨by omega, by omega⟩, by omega, fun _ => ⟨⟨by omega, by omega⟩, by omega, fun _ => ⟨⟨by omega, by omega⟩, ?_⟩⟩⟩
  refine loop_unroll 400 ?_
  simp
  omega
theorem c123_ok : c123.ok Try.prog := mkCon_ok fun ⟨a, b, c⟩ hpre => c123_pc a b c hpre
def mKeyed (k : Int) (l : List Int) : Int := mHash (k :: (l ++ [k]))
@[simp] theorem c123_fnk (k : Int) (l : List Int) : c123.fn [.sx 1 [.sl false 1 (.lit (.int .i64 0)) [dI k], .sl false 1 (.lit (.int .i64 0)) (ML dI l), .sl false 1 (.lit (.int .i64 0)) [dI k]]] [] = some (0 < 1 + l.length + 1 ∧ 1 ≤ 1073741824 ∧ l.length ≤ 1073741824 ∧ 1 ≤ 1073741824, .own (0, 1) 1 0 (1 + l.length + 1), [((0, 1), .arr false 1 (dI 0) (ML dI ([k] ++ l ++ [k])))]) := c123_fn [k] l [k]
/-- loop.example/g03007/spec.KeyedHash -/
noncomputable def c71 : Con := mkCon 71 false (α := Int × (List Int)) (fun x => (fun (k : Int) (l : List Int) => [dI k, encLI l]) x.1 x.2) (fun _ => []) (fun x => (fun (k : Int) (l : List Int) => l.length ≤ 1073741823) x.1 x.2) (fun x => (fun (k : Int) (l : List Int) => (dI (mKeyed k l) : D)) x.1 x.2) (fun x => (fun (k : Int) (l : List Int) => []) x.1 x.2)
@[simp] theorem c71_f : c71.f = 71 := rfl
@[simp] theorem c71_own : c71.own = false := rfl
theorem c71_inj : ∀ u_ v_ : Int × (List Int), ((fun x => (fun (k : Int) (l : List Int) => [dI k, encLI l]) x.1 x.2) u_).map nz = ((fun x => (fun (k : Int) (l : List Int) => [dI k, encLI l]) x.1 x.2) v_).map nz → u_ = v_ := by
  intro u_ v_ h
  obtain ⟨k, l⟩ := u_
  obtain ⟨k', l'⟩ := v_
  simp [nz_lit, nz1_lit, nz_agg, nz_sl, nz1_sl, encLI] at h
  first | (simp [h]; done) | (obtain ⟨⟩ := h; simp_all; done) | simp_all
@[simp] theorem c71_fn (k : Int) (l : List Int) : c71.fn [.lit (.int .i64 k), .sl false 1 (.lit (.int .i64 0)) (ML dI l)] [] = some ((fun (k : Int) (l : List Int) => l.length ≤ 1073741823) k l, (fun (k : Int) (l : List Int) => (dI (mKeyed k l) : D)) k l, (fun (k : Int) (l : List Int) => []) k l) :=
  mkCon_fn (fun x y h _ => c71_inj x y h) ((k, l) : Int × (List Int)) (by simp [nz, nz1, ML_nil, encLI]) rfl
@[simp] theorem c71_fn1 (k : Int) (s_l : Nat) (z_l : D) : c71.fn [.lit (.int .i64 k), .sl false s_l z_l []] [] = some ((fun (k : Int) (l : List Int) => l.length ≤ 1073741823) k [], (fun (k : Int) (l : List Int) => (dI (mKeyed k l) : D)) k [], (fun (k : Int) (l : List Int) => []) k []) :=
  mkCon_fn (fun x y h _ => c71_inj x y h) ((k, []) : Int × (List Int)) (by simp [nz, nz1, ML_nil, encLI]) rfl
theorem c71_pc (k : Int) (l : List Int) (hpre : l.length ≤ 1073741823) : PCo Try.prog 71 [dI k, encLI l] (Tab.of []) (dI (mKeyed k l)) (Tab.of []) := by
  refine pco_of_run [] (E := ⟨[c69], []⟩) (m := false) (base := 0) (Env.ok_cons c69_ok Env.ok_nil) G_ok mix 300 6 Try.func71 (by kernel_rfl) rfl (by kernel_rfl) (by kernel_rfl) rfl ?_
  simp [Try.f71]
  simp [mKeyed]
  omega
theorem c71_ok : c71.ok Try.prog := mkCon_ok fun ⟨k, l⟩ hpre => c71_pc k l hpre
/-- loop.example/g03007/impl.KeyedHash -/
noncomputable def c72 : Con := mkCon 72 false (α := Int × (List Int)) (fun x => (fun (k : Int) (l : List Int) => [dI k, encLI l]) x.1 x.2) (fun _ => []) (fun x => (fun (k : Int) (l : List Int) => l.length ≤ 1073741823) x.1 x.2) (fun x => (fun (k : Int) (l : List Int) => (dI (mKeyed k l) : D)) x.1 x.2) (fun x => (fun (k : Int) (l : List Int) => []) x.1 x.2)
@[simp] theorem c72_f : c72.f = 72 := rfl
@[simp] theorem c72_own : c72.own = false := rfl
theorem c72_inj : ∀ u_ v_ : Int × (List Int), ((fun x => (fun (k : Int) (l : List Int) => [dI k, encLI l]) x.1 x.2) u_).map nz = ((fun x => (fun (k : Int) (l : List Int) => [dI k, encLI l]) x.1 x.2) v_).map nz → u_ = v_ := by
  intro u_ v_ h
  obtain ⟨k, l⟩ := u_
  obtain ⟨k', l'⟩ := v_
  simp [nz_lit, nz1_lit, nz_agg, nz_sl, nz1_sl, encLI] at h
  first | (simp [h]; done) | (obtain ⟨⟩ := h; simp_all; done) | simp_all
@[simp] theorem c72_fn (k : Int) (l : List Int) : c72.fn [.lit (.int .i64 k), .sl false 1 (.lit (.int .i64 0)) (ML dI l)] [] = some ((fun (k : Int) (l : List Int) => l.length ≤ 1073741823) k l, (fun (k : Int) (l : List Int) => (dI (mKeyed k l) : D)) k l, (fun (k : Int) (l : List Int) => []) k l) :=
  mkCon_fn (fun x y h _ => c72_inj x y h) ((k, l) : Int × (List Int)) (by simp [nz, nz1, ML_nil, encLI]) rfl
@[simp] theorem c72_fn1 (k : Int) (s_l : Nat) (z_l : D) : c72.fn [.lit (.int .i64 k), .sl false s_l z_l []] [] = some ((fun (k : Int) (l : List Int) => l.length ≤ 1073741823) k [], (fun (k : Int) (l : List Int) => (dI (mKeyed k l) : D)) k [], (fun (k : Int) (l : List Int) => []) k []) :=
  mkCon_fn (fun x y h _ => c72_inj x y h) ((k, []) : Int × (List Int)) (by simp [nz, nz1, ML_nil, encLI]) rfl
theorem c72_pc (k : Int) (l : List Int) (hpre : l.length ≤ 1073741823) : PCo Try.prog 72 [dI k, encLI l] (Tab.of []) (dI (mKeyed k l)) (Tab.of []) := by
  refine pco_of_run [] (E := ⟨[c70, c123], []⟩) (m := false) (base := 0) (Env.ok_cons c70_ok (Env.ok_cons c123_ok Env.ok_nil)) G_ok mix 300 6 Try.func72 (by kernel_rfl) rfl (by kernel_rfl) (by kernel_rfl) rfl ?_
  simp [Try.f72]
  simp [mKeyed]
  omega
theorem c72_ok : c72.ok Try.prog := mkCon_ok fun ⟨k, l⟩ hpre => c72_pc k l hpre
/-- loop.example/g03007/spec.IsValidKey -/
noncomputable def c73 : Con := mkCon 73 false (α := Int) (fun x => (fun (k : Int) => [dI k]) x) (fun _ => []) (fun x => (fun (k : Int) => True) x) (fun x => (fun (k : Int) => (dB (mIn k 1 2147483646) : D)) x) (fun x => (fun (k : Int) => []) x)
@[simp] theorem c73_f : c73.f = 73 := rfl
@[simp] theorem c73_own : c73.own = false := rfl
theorem c73_inj : ∀ u_ v_ : Int, ((fun x => (fun (k : Int) => [dI k]) x) u_).map nz = ((fun x => (fun (k : Int) => [dI k]) x) v_).map nz → u_ = v_ := by
  intro u_ v_ h
  obtain k := u_
  obtain k' := v_
  simp [nz_lit, nz1_lit, nz_agg, nz_sl, nz1_sl] at h
  first | (simp [h]; done) | (obtain ⟨⟩ := h; simp_all; done) | simp_all
@[simp] theorem c73_fn (k : Int) : c73.fn [.lit (.int .i64 k)] [] = some ((fun (k : Int) => True) k, (fun (k : Int) => (dB (mIn k 1 2147483646) : D)) k, (fun (k : Int) => []) k) :=
  mkCon_fn (fun x y h _ => c73_inj x y h) (k : Int) (by simp [nz, nz1, ML_nil]) rfl
theorem c73_pc (k : Int) : PCo Try.prog 73 [dI k] (Tab.of []) (dB (mIn k 1 2147483646)) (Tab.of []) := by
  refine pco_of_run [] (E := ⟨[c113], []⟩) (m := false) (base := 0) (Env.ok_cons c113_ok Env.ok_nil) G_ok mix 300 6 Try.func73 (by kernel_rfl) rfl (by kernel_rfl) (by kernel_rfl) rfl ?_
  simp [Try.f73]
  all_goals first | omega | (rw [Bool.eq_iff_iff]; simp; omega) | grind
theorem c73_ok : c73.ok Try.prog := mkCon_ok fun k hpre => c73_pc k
/-- loop.example/g03007/impl.IsValidKey -/
noncomputable def c74 : Con := mkCon 74 false (α := Int) (fun x => (fun (k : Int) => [dI k]) x) (fun _ => []) (fun x => (fun (k : Int) => True) x) (fun x => (fun (k : Int) => (dB (mIn k 1 2147483646) : D)) x) (fun x => (fun (k : Int) => []) x)
@[simp] theorem c74_f : c74.f = 74 := rfl
@[simp] theorem c74_own : c74.own = false := rfl
theorem c74_inj : ∀ u_ v_ : Int, ((fun x => (fun (k : Int) => [dI k]) x) u_).map nz = ((fun x => (fun (k : Int) => [dI k]) x) v_).map nz → u_ = v_ := by
  intro u_ v_ h
  obtain k := u_
  obtain k' := v_
  simp [nz_lit, nz1_lit, nz_agg, nz_sl, nz1_sl] at h
  first | (simp [h]; done) | (obtain ⟨⟩ := h; simp_all; done) | simp_all
@[simp] theorem c74_fn (k : Int) : c74.fn [.lit (.int .i64 k)] [] = some ((fun (k : Int) => True) k, (fun (k : Int) => (dB (mIn k 1 2147483646) : D)) k, (fun (k : Int) => []) k) :=
  mkCon_fn (fun x y h _ => c74_inj x y h) (k : Int) (by simp [nz, nz1, ML_nil]) rfl
theorem c74_pc (k : Int) : PCo Try.prog 74 [dI k] (Tab.of []) (dB (mIn k 1 2147483646)) (Tab.of []) := by
  refine pco_of_run [] (E := ⟨[c46], []⟩) (m := false) (base := 0) (Env.ok_cons c46_ok Env.ok_nil) G_ok mix 300 6 Try.func74 (by kernel_rfl) rfl (by kernel_rfl) (by kernel_rfl) rfl ?_
  simp [Try.f74]
  all_goals first | omega | (rw [Bool.eq_iff_iff]; simp; omega) | grind
theorem c74_ok : c74.ok Try.prog := mkCon_ok fun k hpre => c74_pc k
def mInts (b : List Int) : List Int := (b.length : Int) :: b
/-- loop.example/g03007/spec.BytesToInts -/
noncomputable def c75 : Con := mkCon 75 false (α := (List Int)) (fun x => (fun (b : List Int) => [encLU b]) x) (fun _ => []) (fun x => (fun (b : List Int) => b.length ≤ 1073741822 ∧ ∀ x ∈ b, 0 ≤ x ∧ x ≤ 255) x) (fun x => (fun (b : List Int) => (.own (0, 1) 1 0 (mInts b).length : D)) x) (fun x => (fun (b : List Int) => [((0, 1), .arr false 1 (dI 0) (ML dI (mInts b)))]) x)
@[simp] theorem c75_f : c75.f = 75 := rfl
@[simp] theorem c75_own : c75.own = false := rfl
theorem c75_inj : ∀ u_ v_ : (List Int), ((fun x => (fun (b : List Int) => [encLU b]) x) u_).map nz = ((fun x => (fun (b : List Int) => [encLU b]) x) v_).map nz → u_ = v_ := by
  intro u_ v_ h
  obtain b := u_
  obtain b' := v_
  simp [nz_lit, nz1_lit, nz_agg, nz_sl, nz1_sl, encLU] at h
  first | (simp [h]; done) | (obtain ⟨⟩ := h; simp_all; done) | simp_all
@[simp] theorem c75_fn (b : List Int) : c75.fn [.sl false 1 (.lit (.int .u8 0)) (ML dU b)] [] = some ((fun (b : List Int) => b.length ≤ 1073741822 ∧ ∀ x ∈ b, 0 ≤ x ∧ x ≤ 255) b, (fun (b : List Int) => (.own (0, 1) 1 0 (mInts b).length : D)) b, (fun (b : List Int) => [((0, 1), .arr false 1 (dI 0) (ML dI (mInts b)))]) b) :=
  mkCon_fn (fun x y h _ => c75_inj x y h) (b : (List Int)) (by simp [nz, nz1, ML_nil, encLU]) rfl
@[simp] theorem c75_fn1 (s_b : Nat) (z_b : D) : c75.fn [.sl false s_b z_b []] [] = some ((fun (b : List Int) => b.length ≤ 1073741822 ∧ ∀ x ∈ b, 0 ≤ x ∧ x ≤ 255) [], (fun (b : List Int) => (.own (0, 1) 1 0 (mInts b).length : D)) [], (fun (b : List Int) => [((0, 1), .arr false 1 (dI 0) (ML dI (mInts b)))]) []) :=
  mkCon_fn (fun x y h _ => c75_inj x y h) ([] : (List Int)) (by simp [nz, nz1, ML_nil, encLU]) rfl
theorem c75_pc (b : List Int) (hpre : b.length ≤ 1073741822 ∧ ∀ x ∈ b, 0 ≤ x ∧ x ≤ 255) : PCo Try.prog 75 [encLU b] (Tab.of []) (.own (0, 1) 1 0 (mInts b).length) (Tab.of [((0, 1), .arr false 1 (dI 0) (ML dI (mInts b)))]) := by
  refine pco_of_run [] (E := ⟨[], []⟩) (m := false) (base := 0) Env.ok_nil G_ok mix 300 6 Try.func75 (by kernel_rfl) rfl (by kernel_rfl) (by kernel_rfl) rfl ?_
  simp [Try.f75]
  obtain ⟨hl, hb⟩ := hpre
  refine loop_inv (fun p : Nat => p ≤ b.length) (fun p => [(0, encLU b), (3, .own (0, 1) 1 0 (p + 1)), (4, dI p)]) (fun p => [((0, 1), .arr false 1 (dI 0) (ML dI ((b.length : Int) :: b.take p)))]) 2 (fun p => b.length - p) 0 400 (by simp) (by simp) (by simp; first | done | rfl) ?_
  intro p hp
  simp
  have hm : min p b.length = p := by omega
  refine ⟨fun hlt => ?_, fun hge => ?_⟩
  · have hx := hb _ (getD_mem (d := 0) hlt)
    repeat' (first | omega | refine And.intro ?_ ?_ | intro _)
    exact Again.mk (p + 1) (by omega) (by simp [hm, take_at (d := 0) hlt]) (by first | omega | (simp; omega))
  · have : p = b.length := by omega
    subst this; simp [mInts]
theorem c75_ok : c75.ok Try.prog := mkCon_ok fun b hpre => c75_pc b hpre
/-- loop.example/g03007/impl.BytesToInts -/
noncomputable def c76 : Con := mkCon 76 false (α := (List Int)) (fun x => (fun (b : List Int) => [encLU b]) x) (fun _ => []) (fun x => (fun (b : List Int) => b.length ≤ 1073741822 ∧ ∀ x ∈ b, 0 ≤ x ∧ x ≤ 255) x) (fun x => (fun (b : List Int) => (.own (0, 1) 1 0 (mInts b).length : D)) x) (fun x => (fun (b : List Int) => [((0, 1), .arr false 1 (dI 0) (ML dI (mInts b)))]) x)
@[simp] theorem c76_f : c76.f = 76 := rfl
@[simp] theorem c76_own : c76.own = false := rfl
theorem c76_inj : ∀ u_ v_ : (List Int), ((fun x => (fun (b : List Int) => [encLU b]) x) u_).map nz = ((fun x => (fun (b : List Int) => [encLU b]) x) v_).map nz → u_ = v_ := by
  intro u_ v_ h
  obtain b := u_
  obtain b' := v_
  simp [nz_lit, nz1_lit, nz_agg, nz_sl, nz1_sl, encLU] at h
  first | (simp [h]; done) | (obtain ⟨⟩ := h; simp_all; done) | simp_all
@[simp] theorem c76_fn (b : List Int) : c76.fn [.sl false 1 (.lit (.int .u8 0)) (ML dU b)] [] = some ((fun (b : List Int) => b.length ≤ 1073741822 ∧ ∀ x ∈ b, 0 ≤ x ∧ x ≤ 255) b, (fun (b : List Int) => (.own (0, 1) 1 0 (mInts b).length : D)) b, (fun (b : List Int) => [((0, 1), .arr false 1 (dI 0) (ML dI (mInts b)))]) b) :=
  mkCon_fn (fun x y h _ => c76_inj x y h) (b : (List Int)) (by simp [nz, nz1, ML_nil, encLU]) rfl
@[simp] theorem c76_fn1 (s_b : Nat) (z_b : D) : c76.fn [.sl false s_b z_b []] [] = some ((fun (b : List Int) => b.length ≤ 1073741822 ∧ ∀ x ∈ b, 0 ≤ x ∧ x ≤ 255) [], (fun (b : List Int) => (.own (0, 1) 1 0 (mInts b).length : D)) [], (fun (b : List Int) => [((0, 1), .arr false 1 (dI 0) (ML dI (mInts b)))]) []) :=
  mkCon_fn (fun x y h _ => c76_inj x y h) ([] : (List Int)) (by simp [nz, nz1, ML_nil, encLU]) rfl
theorem c76_pc (b : List Int) (hpre : b.length ≤ 1073741822 ∧ ∀ x ∈ b, 0 ≤ x ∧ x ≤ 255) : PCo Try.prog 76 [encLU b] (Tab.of []) (.own (0, 1) 1 0 (mInts b).length) (Tab.of [((0, 1), .arr false 1 (dI 0) (ML dI (mInts b)))]) := by
  refine pco_of_run [] (E := ⟨[], []⟩) (m := false) (base := 0) Env.ok_nil G_ok mix 300 6 Try.func76 (by kernel_rfl) rfl (by kernel_rfl) (by kernel_rfl) rfl ?_
  simp [Try.f76]
  obtain ⟨hl, hb⟩ := hpre
  refine ⟨⟨by omega, by omega, by omega⟩, ?_⟩
  refine loop_inv (fun p : Nat => p ≤ b.length) (fun p => [(3, .own (0, 1) 1 0 (p + 1)), (15, encLU b), (16, dI b.length), (17, dI p)]) (fun p => [((0, 1), .arr false 1 (dI 0) (ML dI ((b.length : Int) :: b.take p)))]) 2 (fun p => b.length - p) 0 400 (by simp) (by simp) (by simp; first | done | rfl) ?_
  intro p hp
  simp
  have hm : min p b.length = p := by omega
  refine ⟨fun hlt => ?_, fun hge => ?_⟩
  · have hx := hb _ (getD_mem (d := 0) hlt)
    repeat' (first | omega | refine And.intro ?_ ?_ | intro _)
    exact Again.mk (p + 1) (by omega) (by simp [hm, take_at (d := 0) hlt]) (by first | omega | (simp; omega))
  · have : p = b.length := by omega
    subst this; simp [mInts]
theorem c76_ok : c76.ok Try.prog := mkCon_ok fun b hpre => c76_pc b hpre
def mDerive (k : Int) (b : ByteArray) : Int := max (mKeyed k (mInts (bytesI b))) 1
/-- loop.example/g03007/spec.DeriveFromString -/
noncomputable def c81 : Con := mkCon 81 false (α := Int × ByteArray) (fun x => (fun (k : Int) (b : ByteArray) => [dI k, dS b]) x.1 x.2) (fun _ => []) (fun x => (fun (k : Int) (b : ByteArray) => b.size ≤ 1048576) x.1 x.2) (fun x => (fun (k : Int) (b : ByteArray) => (dI (mDerive k b) : D)) x.1 x.2) (fun x => (fun (k : Int) (b : ByteArray) => []) x.1 x.2)
@[simp] theorem c81_f : c81.f = 81 := rfl
@[simp] theorem c81_own : c81.own = false := rfl
theorem c81_inj : ∀ u_ v_ : Int × ByteArray, ((fun x => (fun (k : Int) (b : ByteArray) => [dI k, dS b]) x.1 x.2) u_).map nz = ((fun x => (fun (k : Int) (b : ByteArray) => [dI k, dS b]) x.1 x.2) v_).map nz → u_ = v_ := by
  intro u_ v_ h
  obtain ⟨k, b⟩ := u_
  obtain ⟨k', b'⟩ := v_
  simp [nz_lit, nz1_lit, nz_agg, nz_sl, nz1_sl] at h
  first | (simp [h]; done) | (obtain ⟨⟩ := h; simp_all; done) | simp_all
@[simp] theorem c81_fn (k : Int) (b : ByteArray) : c81.fn [.lit (.int .i64 k), .lit (.string b)] [] = some ((fun (k : Int) (b : ByteArray) => b.size ≤ 1048576) k b, (fun (k : Int) (b : ByteArray) => (dI (mDerive k b) : D)) k b, (fun (k : Int) (b : ByteArray) => []) k b) :=
  mkCon_fn (fun x y h _ => c81_inj x y h) ((k, b) : Int × ByteArray) (by simp [nz, nz1, ML_nil]) rfl
theorem c81_pc (k : Int) (b : ByteArray) (hpre : b.size ≤ 1048576) : PCo Try.prog 81 [dI k, dS b] (Tab.of []) (dI (mDerive k b)) (Tab.of []) := by
  refine pco_of_run [] (E := ⟨[c39, c71, c75], []⟩) (m := false) (base := 0) (Env.ok_cons c39_ok (Env.ok_cons c71_ok (Env.ok_cons c75_ok Env.ok_nil))) G_ok mix 300 6 Try.func81 (by kernel_rfl) rfl (by kernel_rfl) (by kernel_rfl) rfl ?_
  simp [Try.f81]
  have hb := bytesI_bd (b := b)
  have hl : (mInts (bytesI b)).length = b.size + 1 := by simp [mInts]
  repeat' (first | omega | refine And.intro ?_ ?_ | intro _)
  all_goals simp [hl, mDerive] at *
  all_goals first | done | omega | exact Int.max_comm _ _
theorem c81_ok : c81.ok Try.prog := mkCon_ok fun ⟨k, b⟩ hpre => c81_pc k b hpre
/-- loop.example/g03007/impl.DeriveFromString -/
noncomputable def c82 : Con := mkCon 82 false (α := Int × ByteArray) (fun x => (fun (k : Int) (b : ByteArray) => [dI k, dS b]) x.1 x.2) (fun _ => []) (fun x => (fun (k : Int) (b : ByteArray) => b.size ≤ 1048576) x.1 x.2) (fun x => (fun (k : Int) (b : ByteArray) => (dI (mDerive k b) : D)) x.1 x.2) (fun x => (fun (k : Int) (b : ByteArray) => []) x.1 x.2)
@[simp] theorem c82_f : c82.f = 82 := rfl
@[simp] theorem c82_own : c82.own = false := rfl
theorem c82_inj : ∀ u_ v_ : Int × ByteArray, ((fun x => (fun (k : Int) (b : ByteArray) => [dI k, dS b]) x.1 x.2) u_).map nz = ((fun x => (fun (k : Int) (b : ByteArray) => [dI k, dS b]) x.1 x.2) v_).map nz → u_ = v_ := by
  intro u_ v_ h
  obtain ⟨k, b⟩ := u_
  obtain ⟨k', b'⟩ := v_
  simp [nz_lit, nz1_lit, nz_agg, nz_sl, nz1_sl] at h
  first | (simp [h]; done) | (obtain ⟨⟩ := h; simp_all; done) | simp_all
@[simp] theorem c82_fn (k : Int) (b : ByteArray) : c82.fn [.lit (.int .i64 k), .lit (.string b)] [] = some ((fun (k : Int) (b : ByteArray) => b.size ≤ 1048576) k b, (fun (k : Int) (b : ByteArray) => (dI (mDerive k b) : D)) k b, (fun (k : Int) (b : ByteArray) => []) k b) :=
  mkCon_fn (fun x y h _ => c82_inj x y h) ((k, b) : Int × ByteArray) (by simp [nz, nz1, ML_nil]) rfl
theorem c82_pc (k : Int) (b : ByteArray) (hpre : b.size ≤ 1048576) : PCo Try.prog 82 [dI k, dS b] (Tab.of []) (dI (mDerive k b)) (Tab.of []) := by
  refine pco_of_run [] (E := ⟨[c40, c72, c76], []⟩) (m := false) (base := 0) (Env.ok_cons c40_ok (Env.ok_cons c72_ok (Env.ok_cons c76_ok Env.ok_nil))) G_ok mix 300 6 Try.func82 (by kernel_rfl) rfl (by kernel_rfl) (by kernel_rfl) rfl ?_
  simp [Try.f82]
  have hb := bytesI_bd (b := b)
  have hl : (mInts (bytesI b)).length = b.size + 1 := by simp [mInts]
  repeat' (first | omega | refine And.intro ?_ ?_ | intro _)
  all_goals simp [hl, mDerive] at *
  all_goals first | done | omega | exact Int.max_comm _ _
theorem c82_ok : c82.ok Try.prog := mkCon_ok fun ⟨k, b⟩ hpre => c82_pc k b hpre
/-- loop.example/g03007/laws.FnExactKeyedHash -/
theorem law17 (k : Int) (wk : inR .i64 k) (l : List Int) (wl : wfLI l) : PCo Try.prog 17 [dI k, encLI l] (Tab.of []) (dB true) (Tab.of []) := by
  refine pco_of_run [] (E := ⟨[c60, c62, c71, c72], []⟩) (m := false) (base := 0) (Env.ok_cons c60_ok (Env.ok_cons c62_ok (Env.ok_cons c71_ok (Env.ok_cons c72_ok Env.ok_nil)))) G_ok mix 400 6 Try.func17 (by kernel_rfl) rfl (by kernel_rfl) (by kernel_rfl) rfl ?_
  simp [Try.f17]
  all_goals first | omega | grind
theorem law17_pc (D0 : D) (h0 : Sh G 9 3 D0) (D1 : D) (h1 : Sh G 9 40 D1) : PC Try.prog 17 [D0, D1] (dB true) [] := by
  obtain ⟨k, rfl, wk⟩ := sh3 (n := 8) h0
  obtain ⟨l, rfl, wl⟩ := sh40 (n := 7) h1
  exact law17 k wk l wl
/-- loop.example/g03007/laws.FnExactIsValidKey -/
theorem law18 (k : Int) (wk : inR .i64 k) : PCo Try.prog 18 [dI k] (Tab.of []) (dB true) (Tab.of []) := by
  refine pco_of_run [] (E := ⟨[c73, c74], []⟩) (m := false) (base := 0) (Env.ok_cons c73_ok (Env.ok_cons c74_ok Env.ok_nil)) G_ok mix 400 6 Try.func18 (by kernel_rfl) rfl (by kernel_rfl) (by kernel_rfl) rfl ?_
  simp [Try.f18]
  all_goals first | omega | grind
theorem law18_pc (D0 : D) (h0 : Sh G 9 3 D0) : PC Try.prog 18 [D0] (dB true) [] := by
  obtain ⟨k, rfl, wk⟩ := sh3 (n := 8) h0
  exact law18 k wk
/-- loop.example/g03007/laws.FnExactDeriveFromString -/
theorem law22 (k : Int) (wk : inR .i64 k) (b : ByteArray) (wb : b.size ≤ maxLen) : PCo Try.prog 22 [dI k, dS b] (Tab.of []) (dB true) (Tab.of []) := by
  refine pco_of_run [] (E := ⟨[c81, c82], []⟩) (m := false) (base := 0) (Env.ok_cons c81_ok (Env.ok_cons c82_ok Env.ok_nil)) G_ok mix 400 6 Try.func22 (by kernel_rfl) rfl (by kernel_rfl) (by kernel_rfl) rfl ?_
  simp [Try.f22]
  all_goals first | omega | grind
theorem law22_pc (D0 : D) (h0 : Sh G 9 3 D0) (D1 : D) (h1 : Sh G 9 9 D1) : PC Try.prog 22 [D0, D1] (dB true) [] := by
  obtain ⟨k, rfl, wk⟩ := sh3 (n := 8) h0
  obtain ⟨b, rfl, wb⟩ := sh9 (n := 8) h1
  exact law22 k wk b wb

end Go.Proofs.Ytdccffbbkljkfaa
