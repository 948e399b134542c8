/- Contracts of the functions that the laws run. -/
import Derived.Test.Ytpnfkjbnhholfaach04
import Derived.Test.YtpnfkjbnhholfaaEngB
namespace Go.Proofs.Ytpnfkjbnhholfaa
open Go Go.Eng
set_option linter.unusedSimpArgs false
set_option linter.unusedVariables false
set_option maxRecDepth 10000
set_option maxHeartbeats 1000000
def isFree (s : TSlot) : Bool := decide (s.Thing = 0)
/-- (loop.example/g03007/impl.Slot).isFree -/
noncomputable def c120 : Con := mkCon 120 false (α := TSlot) (fun x => (fun (s : TSlot) => [encTSlot s]) x) (fun _ => []) (fun x => (fun (s : TSlot) => True) x) (fun x => (fun (s : TSlot) => (dB (isFree s) : D)) x) (fun x => (fun (s : TSlot) => []) x)
@[simp] theorem c120_f : c120.f = 120 := rfl
@[simp] theorem c120_own : c120.own = false := rfl
theorem c120_inj : ∀ u_ v_ : TSlot, ((fun x => (fun (s : TSlot) => [encTSlot s]) x) u_).map nz = ((fun x => (fun (s : TSlot) => [encTSlot s]) x) v_).map nz → u_ = v_ := by
  intro u_ v_ h
  obtain ⟨s_Id, s_Size, s_Thing⟩ := u_
  obtain ⟨s_Id', s_Size', s_Thing'⟩ := v_
  simp [nz_lit, nz1_lit, nz_agg, nz_sl, nz1_sl, encTSlot] at h
  first | (simp [h]; done) | (obtain ⟨⟩ := h; simp_all; done) | simp_all
@[simp] theorem c120_fn (s_Id : Int) (s_Size : Int) (s_Thing : Int) : c120.fn [.agg [.lit (.int .i64 s_Id), .lit (.int .i64 s_Size), .lit (.int .i64 s_Thing)]] [] = some ((fun (s : TSlot) => True) ⟨s_Id, s_Size, s_Thing⟩, (fun (s : TSlot) => (dB (isFree s) : D)) ⟨s_Id, s_Size, s_Thing⟩, (fun (s : TSlot) => []) ⟨s_Id, s_Size, s_Thing⟩) :=
  mkCon_fn (fun x y h _ => c120_inj x y h) (⟨s_Id, s_Size, s_Thing⟩ : TSlot) (by simp [nz, nz1, ML_nil, encTSlot]) rfl
theorem c120_pc (s : TSlot) : PCo Try.prog 120 [encTSlot s] (Tab.of []) (dB (isFree s)) (Tab.of []) := by
  obtain ⟨s_Id, s_Size, s_Thing⟩ := s
  refine pco_of_run [] (E := ⟨[], [], []⟩) (m := false) (base := 0) Env.ok_nil G_ok mix 300 6 Try.func120 (by kernel_rfl) rfl (by kernel_rfl) (by kernel_rfl) rfl ?_
  simp [Try.f120]
  first | done | rfl
theorem c120_ok : c120.ok Try.prog := mkCon_ok fun s hpre => c120_pc s
/-- loop.example/g03007/impl.countWhere[loop.example/g03007/impl.Slot] -/
noncomputable def c119 : Con := mkCon 119 false (α := (List TSlot)) (fun x => (fun (l : List TSlot) => ([encLTSlot l, .fn (.func 120) [] []] : List D)) x) (fun x => (fun (l : List TSlot) => ([] : List (Nm × OO))) x) (fun x => (fun (l : List TSlot) => l.length ≤ 1099511627776) x) (fun x => (fun (l : List TSlot) => (dI (l.countP isFree) : D)) x) (fun x => (fun (l : List TSlot) => ([] : List (Nm × OO))) x)
@[simp] theorem c119_f : c119.f = 119 := rfl
@[simp] theorem c119_own : c119.own = false := rfl
theorem c119_inj : ∀ u_ v_ : (List TSlot), ((fun x => (fun (l : List TSlot) => ([encLTSlot l, .fn (.func 120) [] []] : List D)) x) u_).map nz = ((fun x => (fun (l : List TSlot) => ([encLTSlot l, .fn (.func 120) [] []] : List D)) x) v_).map nz → (fun x => (fun (l : List TSlot) => ([] : List (Nm × OO))) x) u_ = (fun x => (fun (l : List TSlot) => ([] : List (Nm × OO))) x) v_ → u_ = v_ := by
  intro u_ v_ h h2_
  obtain l := u_
  obtain l' := v_
  simp [nz_lit, nz1_lit, nz_agg, nz_sl, nz1_sl, nz_sx, nz_el, nz1_el, nz_own, nz1_own, nz_ptr, nz_fn, nz_iface] at h h2_
  first | (simp [h, h2_]; done) | (obtain ⟨h3_, h4_⟩ := List.append_inj h2_ h.1; simp_all; done) | simp_all | grind
@[simp] theorem c119_fn (l : List TSlot) : c119.fn ([(.sl false 3 yTSlot (ML encTSlot l)), .fn (.func 120) [] []]) ([]) = some (l.length ≤ 1099511627776, dI (l.countP isFree), []) :=
  mkCon_fn c119_inj (l : (List TSlot)) rfl rfl
theorem c119_pc (l : List TSlot) (hpre : l.length ≤ 1099511627776) : PCo Try.prog 119 ([encLTSlot l, .fn (.func 120) [] []]) (Tab.of ([])) (dI (l.countP isFree)) (Tab.of ([])) := by
  refine pco_of_run [] (E := ⟨[c120], [], []⟩) (m := false) (base := 0) (Env.ok_cons c120_ok Env.ok_nil) G_ok mix 300 6 Try.func119 (by kernel_rfl) rfl (by kernel_rfl) (by kernel_rfl) rfl ?_
  simp [Try.f119]
  refine loop_inv (fun p : Nat => p ≤ l.length) (fun p => [(1, .fn (.func 120) [] []), (5, dI ((l.take p).countP isFree)), (8, encLTSlot l), (9, dI l.length), (10, dI p)]) (fun _ => []) 1 (fun p => l.length - p) 0 400 (by simp) (by simp) (by simp) ?_
  intro p hp
  simp
  refine ⟨fun hlt => ?_, fun hge => ?_⟩
  · have hs := countP_at (want := isFree) (d := default) hlt
    have hb := countP_take (want := isFree) (l := l) (p := p)
    repeat' (first | omega | refine And.intro ?_ ?_ | intro _)
    all_goals (rename_i hw; refine Again.mk (p + 1) (by omega) (by simp [hs, hw]) (by first | omega | (simp; omega)))
  · rw [List.take_of_length_le hge]
theorem c119_ok : c119.ok Try.prog := mkCon_ok fun l hpre => c119_pc l hpre
/-- loop.example/g03007/impl.FreeSlots -/
noncomputable def c47 : Con := mkCon 47 false (α := (List TSlot)) (fun x => (fun (l : List TSlot) => [encLTSlot l]) x) (fun _ => []) (fun x => (fun (l : List TSlot) => l.length ≤ 1099511627776) x) (fun x => (fun (l : List TSlot) => (dI (l.countP isFree) : D)) x) (fun x => (fun (l : List TSlot) => []) x)
@[simp] theorem c47_f : c47.f = 47 := rfl
@[simp] theorem c47_own : c47.own = false := rfl
theorem c47_inj : ∀ u_ v_ : (List TSlot), ((fun x => (fun (l : List TSlot) => [encLTSlot l]) x) u_).map nz = ((fun x => (fun (l : List TSlot) => [encLTSlot l]) x) v_).map nz → u_ = v_ := by
  intro u_ v_ h
  obtain l := u_
  obtain l' := v_
  simp [nz_lit, nz1_lit, nz_agg, nz_sl, nz1_sl, encLTSlot] at h
  first | (simp [h]; done) | (obtain ⟨⟩ := h; simp_all; done) | simp_all
@[simp] theorem c47_fn (l : List TSlot) : c47.fn [.sl false 3 yTSlot (ML encTSlot l)] [] = some ((fun (l : List TSlot) => l.length ≤ 1099511627776) l, (fun (l : List TSlot) => (dI (l.countP isFree) : D)) l, (fun (l : List TSlot) => []) l) :=
  mkCon_fn (fun x y h _ => c47_inj x y h) (l : (List TSlot)) (by simp [nz, nz1, ML_nil, encLTSlot]) rfl
@[simp] theorem c47_fn1 (s_l : Nat) (z_l : D) : c47.fn [.sl false s_l z_l []] [] = some ((fun (l : List TSlot) => l.length ≤ 1099511627776) [], (fun (l : List TSlot) => (dI (l.countP isFree) : D)) [], (fun (l : List TSlot) => []) []) :=
  mkCon_fn (fun x y h _ => c47_inj x y h) ([] : (List TSlot)) (by simp [nz, nz1, ML_nil, encLTSlot]) rfl
theorem c47_pc (l : List TSlot) (hpre : l.length ≤ 1099511627776) : PCo Try.prog 47 [encLTSlot l] (Tab.of []) (dI (l.countP isFree)) (Tab.of []) := by
  refine pco_of_run [] (E := ⟨[c119, c120, c120], [], []⟩) (m := false) (base := 0) (Env.ok_cons c119_ok (Env.ok_cons c120_ok (Env.ok_cons c120_ok Env.ok_nil))) G_ok mix 300 6 Try.func47 (by kernel_rfl) rfl (by kernel_rfl) (by kernel_rfl) rfl ?_
  simp [Try.f47]
  exact hpre
theorem c47_ok : c47.ok Try.prog := mkCon_ok fun l hpre => c47_pc l hpre
def mLargest (l : List TSlot) : Int := l.foldl (fun n s => if s.Thing = 0 then max n s.Size else n) 0
theorem mLargest_at {l : List TSlot} {p : Nat} (h : p < l.length) : mLargest (l.take (p + 1)) = if (l[p]?.getD default).Thing = 0 then max (mLargest (l.take p)) (l[p]?.getD default).Size else mLargest (l.take p) := by
  simp only [mLargest]; rw [foldl_at (d := default) h]
end Go.Proofs.Ytpnfkjbnhholfaa
