/- Contracts of the functions that the laws run. -/
import Derived.Test.Ytnnlpbogdkdghaach03
import Derived.Test.YtnnlpbogdkdghaaEngB
namespace Go.Proofs.Ytnnlpbogdkdghaa
open Go Go.Eng
set_option linter.unusedSimpArgs false
set_option linter.unusedVariables false
set_option maxRecDepth 10000
set_option maxHeartbeats 1000000
/-- slices.Grow[[]in -/
noncomputable def c59 : Con := mkCon 59 true (α := Int) (fun x => (fun (n : Int) => ([.sl true 0 .any [], dI n] : List D)) x) (fun x => (fun (n : Int) => ([] : List (Nm × OO))) x) (fun x => (fun (n : Int) => 0 < n ∧ n ≤ 1099511627776) x) (fun x => (fun (n : Int) => (.own (0, 1) 1 0 0 : D)) x) (fun x => (fun (n : Int) => ([((0, 1), .arr false 1 (dI 0) (ML dI (List.replicate n.toNat 0)))] : List (Nm × OO))) x)
@[simp] theorem c59_f : c59.f = 59 := rfl
@[simp] theorem c59_own : c59.own = true := rfl
theorem c59_inj : ∀ u_ v_ : Int, ((fun x => (fun (n : Int) => ([.sl true 0 .any [], dI n] : List D)) x) u_).map nz = ((fun x => (fun (n : Int) => ([.sl true 0 .any [], dI n] : List D)) x) v_).map nz → (fun x => (fun (n : Int) => ([] : List (Nm × OO))) x) u_ = (fun x => (fun (n : Int) => ([] : List (Nm × OO))) x) v_ → u_ = v_ := by
  intro u_ v_ h h2_
  obtain n := u_
  obtain n' := v_
  simp [nz_lit, nz1_lit, nz_agg, nz_sl, nz1_sl, nz_sx, nz_el, nz1_el, nz_own, nz1_own, nz_ptr, nz_fn, nz_iface] at h h2_
  first | (simp [h, h2_]; done) | (obtain ⟨h3_, h4_⟩ := List.append_inj h2_ h.1; simp_all; done) | simp_all | grind
@[simp] theorem c59_fn (n : Int) : c59.fn ([.sl true 0 .any [], dI n]) ([]) = some (0 < n ∧ n ≤ 1099511627776, .own (0, 1) 1 0 0, [((0, 1), .arr false 1 (dI 0) (ML dI (List.replicate n.toNat 0)))]) :=
  mkCon_fn c59_inj (n : Int) rfl rfl
theorem c59_pc (n : Int) (hpre : 0 < n ∧ n ≤ 1099511627776) : PCo Try.prog 59 ([.sl true 0 .any [], dI n]) (Tab.of ([])) (.own (0, 1) 1 0 0) (Tab.of ([((0, 1), .arr false 1 (dI 0) (ML dI (List.replicate n.toNat 0)))])) := by
  refine pco_of_run [] (E := ⟨[], [], []⟩) (m := false) (base := 0) Env.ok_nil G_ok mix 300 6 Try.func59 (by kernel_rfl) rfl (by kernel_rfl) (by kernel_rfl) rfl ?_
  simp [Try.f59]
  all_goals first | omega | (rw [Bool.eq_iff_iff]; simp; omega) | grind
theorem c59_ok : c59.ok Try.prog := mkCon_ok fun n hpre => c59_pc n hpre
/-- slices.Concat[[]in -/
noncomputable def c46 : Con := mkCon 46 false (α := (List Int) × (List Int) × (List Int)) (fun x => (fun (a : List Int) (b : List Int) (c : List Int) => ([.sx 1 [encLI a, encLI b, encLI c]] : List D)) x.1 x.2.1 x.2.2) (fun x => (fun (a : List Int) (b : List Int) (c : List Int) => ([] : List (Nm × OO))) x.1 x.2.1 x.2.2) (fun x => (fun (a : List Int) (b : List Int) (c : List Int) => 0 < a.length + b.length + c.length ∧ a.length ≤ 1073741824 ∧ b.length ≤ 1073741824 ∧ c.length ≤ 1073741824) x.1 x.2.1 x.2.2) (fun x => (fun (a : List Int) (b : List Int) (c : List Int) => (.own (0, 1) 1 0 (a.length + b.length + c.length) : D)) x.1 x.2.1 x.2.2) (fun x => (fun (a : List Int) (b : List Int) (c : List Int) => ([((0, 1), .arr false 1 (dI 0) (ML dI (a ++ b ++ c)))] : List (Nm × OO))) x.1 x.2.1 x.2.2)
@[simp] theorem c46_f : c46.f = 46 := rfl
@[simp] theorem c46_own : c46.own = false := rfl
theorem c46_inj : ∀ u_ v_ : (List Int) × (List Int) × (List Int), ((fun x => (fun (a : List Int) (b : List Int) (c : List Int) => ([.sx 1 [encLI a, encLI b, encLI c]] : List D)) x.1 x.2.1 x.2.2) u_).map nz = ((fun x => (fun (a : List Int) (b : List Int) (c : List Int) => ([.sx 1 [encLI a, encLI b, encLI c]] : List D)) x.1 x.2.1 x.2.2) v_).map nz → (fun x => (fun (a : List Int) (b : List Int) (c : List Int) => ([] : List (Nm × OO))) x.1 x.2.1 x.2.2) u_ = (fun x => (fun (a : List Int) (b : List Int) (c : List Int) => ([] : List (Nm × OO))) x.1 x.2.1 x.2.2) v_ → u_ = v_ := by
  intro u_ v_ h h2_
  obtain ⟨a, b, c⟩ := u_
  obtain ⟨a', b', c'⟩ := v_
  simp [nz_lit, nz1_lit, nz_agg, nz_sl, nz1_sl, nz_sx, nz_el, nz1_el, nz_own, nz1_own, nz_ptr, nz_fn, nz_iface] at h h2_
  first | (simp [h, h2_]; done) | (obtain ⟨h3_, h4_⟩ := List.append_inj h2_ h.1; simp_all; done) | simp_all | grind
@[simp] theorem c46_fn (a : List Int) (b : List Int) (c : List Int) : c46.fn ([.sx 1 [(.sl false 1 (.lit (.int .i64 0)) (ML dI a)), (.sl false 1 (.lit (.int .i64 0)) (ML dI b)), (.sl false 1 (.lit (.int .i64 0)) (ML dI c))]]) ([]) = some (0 < a.length + b.length + c.length ∧ a.length ≤ 1073741824 ∧ b.length ≤ 1073741824 ∧ c.length ≤ 1073741824, .own (0, 1) 1 0 (a.length + b.length + c.length), [((0, 1), .arr false 1 (dI 0) (ML dI (a ++ b ++ c)))]) :=
  mkCon_fn c46_inj ((a, b, c) : (List Int) × (List Int) × (List Int)) rfl rfl
theorem c46_pc (a : List Int) (b : List Int) (c : List Int) (hpre : 0 < a.length + b.length + c.length ∧ a.length ≤ 1073741824 ∧ b.length ≤ 1073741824 ∧ c.length ≤ 1073741824) : PCo Try.prog 46 ([.sx 1 [encLI a, encLI b, encLI c]]) (Tab.of ([])) (.own (0, 1) 1 0 (a.length + b.length + c.length)) (Tab.of ([((0, 1), .arr false 1 (dI 0) (ML dI (a ++ b ++ c)))])) := by
  refine pco_of_run [] (E := ⟨[c59], [], []⟩) (m := false) (base := 0) (Env.ok_cons c59_ok Env.ok_nil) G_ok mix 300 6 Try.func46 (by kernel_rfl) rfl (by kernel_rfl) (by kernel_rfl) rfl ?_
  simp [Try.f46]
  refine loop_unroll 400 ?_
  simp
  refine ⟨by omega, ⟨by omega, by omega⟩, by omega, fun _ => ⟨⟨by omega, by omega⟩, by omega, fun _ => ⟨⟨by omega, by omega⟩, ?_⟩⟩⟩
  refine loop_unroll 400 ?_
  simp
  omega
theorem c46_ok : c46.ok Try.prog := mkCon_ok fun ⟨a, b, c⟩ hpre => c46_pc a b c hpre
def mKeyed (k : Int) (l : List Int) : Int := mHash (k :: (l ++ [k]))
@[simp] theorem c46_fnk (k : Int) (l : List Int) : c46.fn [.sx 1 [.sl false 1 (.lit (.int .i64 0)) [dI k], .sl false 1 (.lit (.int .i64 0)) (ML dI l), .sl false 1 (.lit (.int .i64 0)) [dI k]]] [] = some (0 < 1 + l.length + 1 ∧ 1 ≤ 1073741824 ∧ l.length ≤ 1073741824 ∧ 1 ≤ 1073741824, .own (0, 1) 1 0 (1 + l.length + 1), [((0, 1), .arr false 1 (dI 0) (ML dI ([k] ++ l ++ [k])))]) := c46_fn [k] l [k]
/-- loop.example/g03007/impl.KeyedHash -/
noncomputable def c25 : Con := mkCon 25 false (α := Int × (List Int)) (fun x => (fun (k : Int) (l : List Int) => [dI k, encLI l]) x.1 x.2) (fun _ => []) (fun x => (fun (k : Int) (l : List Int) => l.length ≤ 1073741823) x.1 x.2) (fun x => (fun (k : Int) (l : List Int) => (dI (mKeyed k l) : D)) x.1 x.2) (fun x => (fun (k : Int) (l : List Int) => []) x.1 x.2)
@[simp] theorem c25_f : c25.f = 25 := rfl
@[simp] theorem c25_own : c25.own = false := rfl
theorem c25_inj : ∀ u_ v_ : Int × (List Int), ((fun x => (fun (k : Int) (l : List Int) => [dI k, encLI l]) x.1 x.2) u_).map nz = ((fun x => (fun (k : Int) (l : List Int) => [dI k, encLI l]) x.1 x.2) v_).map nz → u_ = v_ := by
  intro u_ v_ h
  obtain ⟨k, l⟩ := u_
  obtain ⟨k', l'⟩ := v_
  simp [nz_lit, nz1_lit, nz_agg, nz_sl, nz1_sl, encLI] at h
  first | (simp [h]; done) | (obtain ⟨⟩ := h; simp_all; done) | simp_all
@[simp] theorem c25_fn (k : Int) (l : List Int) : c25.fn [.lit (.int .i64 k), .sl false 1 (.lit (.int .i64 0)) (ML dI l)] [] = some ((fun (k : Int) (l : List Int) => l.length ≤ 1073741823) k l, (fun (k : Int) (l : List Int) => (dI (mKeyed k l) : D)) k l, (fun (k : Int) (l : List Int) => []) k l) :=
  mkCon_fn (fun x y h _ => c25_inj x y h) ((k, l) : Int × (List Int)) (by simp [nz, nz1, ML_nil, encLI]) rfl
@[simp] theorem c25_fn1 (k : Int) (s_l : Nat) (z_l : D) : c25.fn [.lit (.int .i64 k), .sl false s_l z_l []] [] = some ((fun (k : Int) (l : List Int) => l.length ≤ 1073741823) k [], (fun (k : Int) (l : List Int) => (dI (mKeyed k l) : D)) k [], (fun (k : Int) (l : List Int) => []) k []) :=
  mkCon_fn (fun x y h _ => c25_inj x y h) ((k, []) : Int × (List Int)) (by simp [nz, nz1, ML_nil, encLI]) rfl
theorem c25_pc (k : Int) (l : List Int) (hpre : l.length ≤ 1073741823) : PCo Try.prog 25 [dI k, encLI l] (Tab.of []) (dI (mKeyed k l)) (Tab.of []) := by
  refine pco_of_run [] (E := ⟨[c26, c46], [], []⟩) (m := false) (base := 0) (Env.ok_cons c26_ok (Env.ok_cons c46_ok Env.ok_nil)) G_ok mix 300 6 Try.func25 (by kernel_rfl) rfl (by kernel_rfl) (by kernel_rfl) rfl ?_
  simp [Try.f25]
  simp [mKeyed]
  omega
theorem c25_ok : c25.ok Try.prog := mkCon_ok fun ⟨k, l⟩ hpre => c25_pc k l hpre
/-- loop.example/g03007/impl.IsValidKey -/
noncomputable def c29 : Con := mkCon 29 false (α := Int) (fun x => (fun (k : Int) => [dI k]) x) (fun _ => []) (fun x => (fun (k : Int) => True) x) (fun x => (fun (k : Int) => (dB (mIn k 1 2147483646) : D)) x) (fun x => (fun (k : Int) => []) x)
@[simp] theorem c29_f : c29.f = 29 := rfl
@[simp] theorem c29_own : c29.own = false := rfl
theorem c29_inj : ∀ u_ v_ : Int, ((fun x => (fun (k : Int) => [dI k]) x) u_).map nz = ((fun x => (fun (k : Int) => [dI k]) x) v_).map nz → u_ = v_ := by
  intro u_ v_ h
  obtain k := u_
  obtain k' := v_
  simp [nz_lit, nz1_lit, nz_agg, nz_sl, nz1_sl] at h
  first | (simp [h]; done) | (obtain ⟨⟩ := h; simp_all; done) | simp_all
@[simp] theorem c29_fn (k : Int) : c29.fn [.lit (.int .i64 k)] [] = some ((fun (k : Int) => True) k, (fun (k : Int) => (dB (mIn k 1 2147483646) : D)) k, (fun (k : Int) => []) k) :=
  mkCon_fn (fun x y h _ => c29_inj x y h) (k : Int) (by simp [nz, nz1, ML_nil]) rfl
theorem c29_pc (k : Int) : PCo Try.prog 29 [dI k] (Tab.of []) (dB (mIn k 1 2147483646)) (Tab.of []) := by
  refine pco_of_run [] (E := ⟨[c37], [], []⟩) (m := false) (base := 0) (Env.ok_cons c37_ok Env.ok_nil) G_ok mix 300 6 Try.func29 (by kernel_rfl) rfl (by kernel_rfl) (by kernel_rfl) rfl ?_
  simp [Try.f29]
  all_goals first | omega | (rw [Bool.eq_iff_iff]; simp; omega) | grind
theorem c29_ok : c29.ok Try.prog := mkCon_ok fun k hpre => c29_pc k
def mInts (b : List Int) : List Int := (b.length : Int) :: b
/-- loop.example/g03007/impl.BytesToInts -/
noncomputable def c52 : Con := mkCon 52 false (α := (List Int)) (fun x => (fun (b : List Int) => [encLU b]) x) (fun _ => []) (fun x => (fun (b : List Int) => b.length ≤ 1073741822 ∧ ∀ x ∈ b, 0 ≤ x ∧ x ≤ 255) x) (fun x => (fun (b : List Int) => (.own (0, 1) 1 0 (mInts b).length : D)) x) (fun x => (fun (b : List Int) => [((0, 1), .arr false 1 (dI 0) (ML dI (mInts b)))]) x)
@[simp] theorem c52_f : c52.f = 52 := rfl
@[simp] theorem c52_own : c52.own = false := rfl
theorem c52_inj : ∀ u_ v_ : (List Int), ((fun x => (fun (b : List Int) => [encLU b]) x) u_).map nz = ((fun x => (fun (b : List Int) => [encLU b]) x) v_).map nz → u_ = v_ := by
  intro u_ v_ h
  obtain b := u_
  obtain b' := v_
  simp [nz_lit, nz1_lit, nz_agg, nz_sl, nz1_sl, encLU] at h
  first | (simp [h]; done) | (obtain ⟨⟩ := h; simp_all; done) | simp_all
@[simp] theorem c52_fn (b : List Int) : c52.fn [.sl false 1 (.lit (.int .u8 0)) (ML dU b)] [] = some ((fun (b : List Int) => b.length ≤ 1073741822 ∧ ∀ x ∈ b, 0 ≤ x ∧ x ≤ 255) b, (fun (b : List Int) => (.own (0, 1) 1 0 (mInts b).length : D)) b, (fun (b : List Int) => [((0, 1), .arr false 1 (dI 0) (ML dI (mInts b)))]) b) :=
  mkCon_fn (fun x y h _ => c52_inj x y h) (b : (List Int)) (by simp [nz, nz1, ML_nil, encLU]) rfl
@[simp] theorem c52_fn1 (s_b : Nat) (z_b : D) : c52.fn [.sl false s_b z_b []] [] = some ((fun (b : List Int) => b.length ≤ 1073741822 ∧ ∀ x ∈ b, 0 ≤ x ∧ x ≤ 255) [], (fun (b : List Int) => (.own (0, 1) 1 0 (mInts b).length : D)) [], (fun (b : List Int) => [((0, 1), .arr false 1 (dI 0) (ML dI (mInts b)))]) []) :=
  mkCon_fn (fun x y h _ => c52_inj x y h) ([] : (List Int)) (by simp [nz, nz1, ML_nil, encLU]) rfl
theorem c52_pc (b : List Int) (hpre : b.length ≤ 1073741822 ∧ ∀ x ∈ b, 0 ≤ x ∧ x ≤ 255) : PCo Try.prog 52 [encLU b] (Tab.of []) (.own (0, 1) 1 0 (mInts b).length) (Tab.of [((0, 1), .arr false 1 (dI 0) (ML dI (mInts b)))]) := by
  refine pco_of_run [] (E := ⟨[], [], []⟩) (m := false) (base := 0) Env.ok_nil G_ok mix 300 6 Try.func52 (by kernel_rfl) rfl (by kernel_rfl) (by kernel_rfl) rfl ?_
  simp [Try.f52]
  obtain ⟨hl, hb⟩ := hpre
  refine ⟨⟨by omega, by omega, by omega⟩, ?_⟩
  refine loop_inv (fun p : Nat => p ≤ b.length) (fun p => [(3, .own (0, 1) 1 0 (p + 1)), (15, encLU b), (16, dI b.length), (17, dI p)]) (fun p => [((0, 1), .arr false 1 (dI 0) (ML dI ((b.length : Int) :: b.take p)))]) 2 (fun p => b.length - p) 0 400 (by simp) (by simp) (by simp; first | done | rfl) ?_
  intro p hp
  simp
  have hm : min p b.length = p := by omega
  refine ⟨fun hlt => ?_, fun hge => ?_⟩
  · have hx := hb _ (getD_mem (d := 0) hlt)
    repeat' (first | omega | refine And.intro ?_ ?_ | intro _)
    exact Again.mk (p + 1) (by omega) (by simp [hm, take_at (d := 0) hlt]) (by first | omega | (simp; omega))
  · have : p = b.length := by omega
    subst this; simp [mInts]
theorem c52_ok : c52.ok Try.prog := mkCon_ok fun b hpre => c52_pc b hpre
def mDerive (k : Int) (b : ByteArray) : Int := max (mKeyed k (mInts (bytesI b))) 1
/-- loop.example/g03007/impl.DeriveFromString -/
noncomputable def c30 : Con := mkCon 30 false (α := Int × ByteArray) (fun x => (fun (k : Int) (b : ByteArray) => [dI k, dS b]) x.1 x.2) (fun _ => []) (fun x => (fun (k : Int) (b : ByteArray) => b.size ≤ 1048576) x.1 x.2) (fun x => (fun (k : Int) (b : ByteArray) => (dI (mDerive k b) : D)) x.1 x.2) (fun x => (fun (k : Int) (b : ByteArray) => []) x.1 x.2)
@[simp] theorem c30_f : c30.f = 30 := rfl
@[simp] theorem c30_own : c30.own = false := rfl
theorem c30_inj : ∀ u_ v_ : Int × ByteArray, ((fun x => (fun (k : Int) (b : ByteArray) => [dI k, dS b]) x.1 x.2) u_).map nz = ((fun x => (fun (k : Int) (b : ByteArray) => [dI k, dS b]) x.1 x.2) v_).map nz → u_ = v_ := by
  intro u_ v_ h
  obtain ⟨k, b⟩ := u_
  obtain ⟨k', b'⟩ := v_
  simp [nz_lit, nz1_lit, nz_agg, nz_sl, nz1_sl] at h
  first | (simp [h]; done) | (obtain ⟨⟩ := h; simp_all; done) | simp_all
@[simp] theorem c30_fn (k : Int) (b : ByteArray) : c30.fn [.lit (.int .i64 k), .lit (.string b)] [] = some ((fun (k : Int) (b : ByteArray) => b.size ≤ 1048576) k b, (fun (k : Int) (b : ByteArray) => (dI (mDerive k b) : D)) k b, (fun (k : Int) (b : ByteArray) => []) k b) :=
  mkCon_fn (fun x y h _ => c30_inj x y h) ((k, b) : Int × ByteArray) (by simp [nz, nz1, ML_nil]) rfl
theorem c30_pc (k : Int) (b : ByteArray) (hpre : b.size ≤ 1048576) : PCo Try.prog 30 [dI k, dS b] (Tab.of []) (dI (mDerive k b)) (Tab.of []) := by
  refine pco_of_run [] (E := ⟨[c25, c51, c52], [], []⟩) (m := false) (base := 0) (Env.ok_cons c25_ok (Env.ok_cons c51_ok (Env.ok_cons c52_ok Env.ok_nil))) G_ok mix 300 6 Try.func30 (by kernel_rfl) rfl (by kernel_rfl) (by kernel_rfl) rfl ?_
  simp [Try.f30]
  have hb := bytesI_bd (b := b)
  have hl : (mInts (bytesI b)).length = b.size + 1 := by simp [mInts]
  repeat' (first | omega | refine And.intro ?_ ?_ | intro _)
  all_goals simp [hl, mDerive] at *
  all_goals first | done | omega | exact Int.max_comm _ _
theorem c30_ok : c30.ok Try.prog := mkCon_ok fun ⟨k, b⟩ hpre => c30_pc k b hpre
end Go.Proofs.Ytnnlpbogdkdghaa
