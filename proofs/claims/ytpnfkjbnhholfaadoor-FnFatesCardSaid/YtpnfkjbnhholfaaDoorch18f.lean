/- Contracts of the functions that the laws run. -/
import Derived.Test.YtpnfkjbnhholfaaDoorch17
import Derived.Test.YtpnfkjbnhholfaaDoorch13h
import Derived.Test.YtpnfkjbnhholfaaDoorEngB
namespace Go.Proofs.YtpnfkjbnhholfaaDoor
open Go Go.Eng
set_option linter.unusedSimpArgs false
set_option linter.unusedVariables false
set_option maxRecDepth 10000
set_option maxHeartbeats 1000000
def keptC (l : List TClaim) (now : Int) (f : TFind) : Bool := !mIsDue now f || decide (0 < (getG (bkC l) f.Thing.Id).countP (stateIs 0))
def mFateOf (l : List TClaim) (now : Int) (f : TFind) : Int := if mFirst l f.Thing.Id ≠ 0 then 1 else if keptC l now f = true then 0 else if f.Thing.Kind = 7 ∨ f.Thing.Worth = 0 then 5 else if 5000 < f.Thing.Worth then 3 else if f.Finder ≠ 0 then 2 else 4
theorem fate_cases (l : List TClaim) (now : Int) (f : TFind) : (¬ mFirst l f.Thing.Id = 0 ∧ mFateOf l now f = 1) ∨ (mFirst l f.Thing.Id = 0 ∧ keptC l now f = true ∧ mFateOf l now f = 0) ∨ (mFirst l f.Thing.Id = 0 ∧ keptC l now f = false ∧ (f.Thing.Kind = 7 ∨ f.Thing.Worth = 0) ∧ mFateOf l now f = 5) ∨
    (mFirst l f.Thing.Id = 0 ∧ keptC l now f = false ∧ (¬ f.Thing.Kind = 7 ∧ ¬ f.Thing.Worth = 0) ∧ 5000 < f.Thing.Worth ∧ mFateOf l now f = 3) ∨
    (mFirst l f.Thing.Id = 0 ∧ keptC l now f = false ∧ (¬ f.Thing.Kind = 7 ∧ ¬ f.Thing.Worth = 0) ∧ ¬ 5000 < f.Thing.Worth ∧ ¬ f.Finder = 0 ∧ mFateOf l now f = 2) ∨
    (mFirst l f.Thing.Id = 0 ∧ keptC l now f = false ∧ (¬ f.Thing.Kind = 7 ∧ ¬ f.Thing.Worth = 0) ∧ ¬ 5000 < f.Thing.Worth ∧ f.Finder = 0 ∧ mFateOf l now f = 4) := by
  unfold mFateOf
  by_cases h1 : mFirst l f.Thing.Id = 0
  · by_cases h2 : keptC l now f = true
    · simp [h1, h2]
    · by_cases h3 : f.Thing.Kind = 7 ∨ f.Thing.Worth = 0
      · simp only [Bool.not_eq_true] at h2
        simp [h1, h2, h3]
      · rw [not_or] at h3
        simp only [Bool.not_eq_true] at h2
        by_cases h4 : 5000 < f.Thing.Worth
        · simp [h1, h2, h3, h4]
        · by_cases h5 : f.Finder = 0
          · simp [h1, h2, h3, h4, h5]
          · simp [h1, h2, h3, h4, h5]
  · simp [h1]
theorem fate_bd (l : List TClaim) (now : Int) (f : TFind) : 0 ≤ mFateOf l now f ∧ mFateOf l now f ≤ 5 := by
  simp only [mFateOf]; split <;> (try split) <;> (try split) <;> (try split) <;> (try split) <;> omega
/-- loop.example/g03007/impl.isProved -/
noncomputable def c57 : Con := mkCon 57 false (α := TFind × (List TClaim) × Int) (fun x => (fun (f : TFind) (l : List TClaim) (now : Int) => [encTFind f, encLTClaim l, dI now]) x.1 x.2.1 x.2.2) (fun _ => []) (fun x => (fun (f : TFind) (l : List TClaim) (now : Int) => l.length ≤ 1073741823) x.1 x.2.1 x.2.2) (fun x => (fun (f : TFind) (l : List TClaim) (now : Int) => (dB (decide (mFirst l f.Thing.Id ≠ 0)) : D)) x.1 x.2.1 x.2.2) (fun x => (fun (f : TFind) (l : List TClaim) (now : Int) => []) x.1 x.2.1 x.2.2)
@[simp] theorem c57_f : c57.f = 57 := rfl
@[simp] theorem c57_own : c57.own = false := rfl
theorem c57_inj : ∀ u_ v_ : TFind × (List TClaim) × Int, ((fun x => (fun (f : TFind) (l : List TClaim) (now : Int) => [encTFind f, encLTClaim l, dI now]) x.1 x.2.1 x.2.2) u_).map nz = ((fun x => (fun (f : TFind) (l : List TClaim) (now : Int) => [encTFind f, encLTClaim l, dI now]) x.1 x.2.1 x.2.2) v_).map nz → u_ = v_ := by
  intro u_ v_ h
  obtain ⟨⟨⟨f_Thing_Id, f_Thing_Kind, f_Thing_Colour, f_Thing_Size, f_Thing_Worth⟩, f_Place, f_At, f_Finder⟩, l, now⟩ := u_
  obtain ⟨⟨⟨f_Thing_Id', f_Thing_Kind', f_Thing_Colour', f_Thing_Size', f_Thing_Worth'⟩, f_Place', f_At', f_Finder'⟩, l', now'⟩ := v_
  simp [nz_lit, nz1_lit, nz_agg, nz_sl, nz1_sl, encLTClaim, encTFind, encTThing] at h
  first | (simp [h]; done) | (obtain ⟨⟩ := h; simp_all; done) | simp_all
@[simp] theorem c57_fn (f_Thing_Id : Int) (f_Thing_Kind : Int) (f_Thing_Colour : Int) (f_Thing_Size : Int) (f_Thing_Worth : Int) (f_Place : Int) (f_At : Int) (f_Finder : Int) (l : List TClaim) (now : Int) : c57.fn [.agg [.lit (.int .i64 f_Thing_Id), .lit (.int .i64 f_Thing_Kind), .lit (.int .i64 f_Thing_Colour), .lit (.int .i64 f_Thing_Size), .lit (.int .i64 f_Thing_Worth), .lit (.int .i64 f_Place), .lit (.int .i64 f_At), .lit (.int .i64 f_Finder)], .sl false 5 yTClaim (ML encTClaim l), .lit (.int .i64 now)] [] = some ((fun (f : TFind) (l : List TClaim) (now : Int) => l.length ≤ 1073741823) ⟨⟨f_Thing_Id, f_Thing_Kind, f_Thing_Colour, f_Thing_Size, f_Thing_Worth⟩, f_Place, f_At, f_Finder⟩ l now, (fun (f : TFind) (l : List TClaim) (now : Int) => (dB (decide (mFirst l f.Thing.Id ≠ 0)) : D)) ⟨⟨f_Thing_Id, f_Thing_Kind, f_Thing_Colour, f_Thing_Size, f_Thing_Worth⟩, f_Place, f_At, f_Finder⟩ l now, (fun (f : TFind) (l : List TClaim) (now : Int) => []) ⟨⟨f_Thing_Id, f_Thing_Kind, f_Thing_Colour, f_Thing_Size, f_Thing_Worth⟩, f_Place, f_At, f_Finder⟩ l now) :=
  mkCon_fn (fun x y h _ => c57_inj x y h) ((⟨⟨f_Thing_Id, f_Thing_Kind, f_Thing_Colour, f_Thing_Size, f_Thing_Worth⟩, f_Place, f_At, f_Finder⟩, l, now) : TFind × (List TClaim) × Int) (by simp [nz, nz1, ML_nil, encLTClaim, encTFind, encTThing]) rfl
@[simp] theorem c57_fn1 (f_Thing_Id : Int) (f_Thing_Kind : Int) (f_Thing_Colour : Int) (f_Thing_Size : Int) (f_Thing_Worth : Int) (f_Place : Int) (f_At : Int) (f_Finder : Int) (s_l : Nat) (z_l : D) (now : Int) : c57.fn [.agg [.lit (.int .i64 f_Thing_Id), .lit (.int .i64 f_Thing_Kind), .lit (.int .i64 f_Thing_Colour), .lit (.int .i64 f_Thing_Size), .lit (.int .i64 f_Thing_Worth), .lit (.int .i64 f_Place), .lit (.int .i64 f_At), .lit (.int .i64 f_Finder)], .sl false s_l z_l [], .lit (.int .i64 now)] [] = some ((fun (f : TFind) (l : List TClaim) (now : Int) => l.length ≤ 1073741823) ⟨⟨f_Thing_Id, f_Thing_Kind, f_Thing_Colour, f_Thing_Size, f_Thing_Worth⟩, f_Place, f_At, f_Finder⟩ [] now, (fun (f : TFind) (l : List TClaim) (now : Int) => (dB (decide (mFirst l f.Thing.Id ≠ 0)) : D)) ⟨⟨f_Thing_Id, f_Thing_Kind, f_Thing_Colour, f_Thing_Size, f_Thing_Worth⟩, f_Place, f_At, f_Finder⟩ [] now, (fun (f : TFind) (l : List TClaim) (now : Int) => []) ⟨⟨f_Thing_Id, f_Thing_Kind, f_Thing_Colour, f_Thing_Size, f_Thing_Worth⟩, f_Place, f_At, f_Finder⟩ [] now) :=
  mkCon_fn (fun x y h _ => c57_inj x y h) ((⟨⟨f_Thing_Id, f_Thing_Kind, f_Thing_Colour, f_Thing_Size, f_Thing_Worth⟩, f_Place, f_At, f_Finder⟩, [], now) : TFind × (List TClaim) × Int) (by simp [nz, nz1, ML_nil, encLTClaim, encTFind, encTThing]) rfl
theorem c57_pc (f : TFind) (l : List TClaim) (now : Int) (hpre : l.length ≤ 1073741823) : PCo Tryd.prog 57 [encTFind f, encLTClaim l, dI now] (Tab.of []) (dB (decide (mFirst l f.Thing.Id ≠ 0))) (Tab.of []) := by
  obtain ⟨⟨f_Thing_Id, f_Thing_Kind, f_Thing_Colour, f_Thing_Size, f_Thing_Worth⟩, f_Place, f_At, f_Finder⟩ := f
  refine pco_of_run [] (E := ⟨[c19], [], []⟩) (m := false) (base := 0) (Env.ok_cons c19_ok Env.ok_nil) G_ok mix 300 6 Tryd.func57 (by kernel_rfl) rfl (by kernel_rfl) (by kernel_rfl) rfl ?_
  simp [Tryd.f57]
  refine ⟨hpre, ?_⟩
  first | rfl | omega | (rw [Bool.eq_iff_iff]; simp; done) | (rw [Bool.eq_iff_iff]; simp; omega) | (rw [Bool.eq_iff_iff]; simp; grind) | grind
theorem c57_ok : c57.ok Tryd.prog := mkCon_ok fun ⟨f, l, now⟩ hpre => c57_pc f l now hpre
/-- loop.example/g03007/impl.isKept -/
noncomputable def c58 : Con := mkCon 58 false (α := TFind × (List TClaim) × Int) (fun x => (fun (f : TFind) (l : List TClaim) (now : Int) => [encTFind f, encLTClaim l, dI now]) x.1 x.2.1 x.2.2) (fun _ => []) (fun x => (fun (f : TFind) (l : List TClaim) (now : Int) => l.length ≤ 1073741823) x.1 x.2.1 x.2.2) (fun x => (fun (f : TFind) (l : List TClaim) (now : Int) => (dB (keptC l now f) : D)) x.1 x.2.1 x.2.2) (fun x => (fun (f : TFind) (l : List TClaim) (now : Int) => []) x.1 x.2.1 x.2.2)
@[simp] theorem c58_f : c58.f = 58 := rfl
@[simp] theorem c58_own : c58.own = false := rfl
theorem c58_inj : ∀ u_ v_ : TFind × (List TClaim) × Int, ((fun x => (fun (f : TFind) (l : List TClaim) (now : Int) => [encTFind f, encLTClaim l, dI now]) x.1 x.2.1 x.2.2) u_).map nz = ((fun x => (fun (f : TFind) (l : List TClaim) (now : Int) => [encTFind f, encLTClaim l, dI now]) x.1 x.2.1 x.2.2) v_).map nz → u_ = v_ := by
  intro u_ v_ h
  obtain ⟨⟨⟨f_Thing_Id, f_Thing_Kind, f_Thing_Colour, f_Thing_Size, f_Thing_Worth⟩, f_Place, f_At, f_Finder⟩, l, now⟩ := u_
  obtain ⟨⟨⟨f_Thing_Id', f_Thing_Kind', f_Thing_Colour', f_Thing_Size', f_Thing_Worth'⟩, f_Place', f_At', f_Finder'⟩, l', now'⟩ := v_
  simp [nz_lit, nz1_lit, nz_agg, nz_sl, nz1_sl, encLTClaim, encTFind, encTThing] at h
  first | (simp [h]; done) | (obtain ⟨⟩ := h; simp_all; done) | simp_all
@[simp] theorem c58_fn (f_Thing_Id : Int) (f_Thing_Kind : Int) (f_Thing_Colour : Int) (f_Thing_Size : Int) (f_Thing_Worth : Int) (f_Place : Int) (f_At : Int) (f_Finder : Int) (l : List TClaim) (now : Int) : c58.fn [.agg [.lit (.int .i64 f_Thing_Id), .lit (.int .i64 f_Thing_Kind), .lit (.int .i64 f_Thing_Colour), .lit (.int .i64 f_Thing_Size), .lit (.int .i64 f_Thing_Worth), .lit (.int .i64 f_Place), .lit (.int .i64 f_At), .lit (.int .i64 f_Finder)], .sl false 5 yTClaim (ML encTClaim l), .lit (.int .i64 now)] [] = some ((fun (f : TFind) (l : List TClaim) (now : Int) => l.length ≤ 1073741823) ⟨⟨f_Thing_Id, f_Thing_Kind, f_Thing_Colour, f_Thing_Size, f_Thing_Worth⟩, f_Place, f_At, f_Finder⟩ l now, (fun (f : TFind) (l : List TClaim) (now : Int) => (dB (keptC l now f) : D)) ⟨⟨f_Thing_Id, f_Thing_Kind, f_Thing_Colour, f_Thing_Size, f_Thing_Worth⟩, f_Place, f_At, f_Finder⟩ l now, (fun (f : TFind) (l : List TClaim) (now : Int) => []) ⟨⟨f_Thing_Id, f_Thing_Kind, f_Thing_Colour, f_Thing_Size, f_Thing_Worth⟩, f_Place, f_At, f_Finder⟩ l now) :=
  mkCon_fn (fun x y h _ => c58_inj x y h) ((⟨⟨f_Thing_Id, f_Thing_Kind, f_Thing_Colour, f_Thing_Size, f_Thing_Worth⟩, f_Place, f_At, f_Finder⟩, l, now) : TFind × (List TClaim) × Int) (by simp [nz, nz1, ML_nil, encLTClaim, encTFind, encTThing]) rfl
@[simp] theorem c58_fn1 (f_Thing_Id : Int) (f_Thing_Kind : Int) (f_Thing_Colour : Int) (f_Thing_Size : Int) (f_Thing_Worth : Int) (f_Place : Int) (f_At : Int) (f_Finder : Int) (s_l : Nat) (z_l : D) (now : Int) : c58.fn [.agg [.lit (.int .i64 f_Thing_Id), .lit (.int .i64 f_Thing_Kind), .lit (.int .i64 f_Thing_Colour), .lit (.int .i64 f_Thing_Size), .lit (.int .i64 f_Thing_Worth), .lit (.int .i64 f_Place), .lit (.int .i64 f_At), .lit (.int .i64 f_Finder)], .sl false s_l z_l [], .lit (.int .i64 now)] [] = some ((fun (f : TFind) (l : List TClaim) (now : Int) => l.length ≤ 1073741823) ⟨⟨f_Thing_Id, f_Thing_Kind, f_Thing_Colour, f_Thing_Size, f_Thing_Worth⟩, f_Place, f_At, f_Finder⟩ [] now, (fun (f : TFind) (l : List TClaim) (now : Int) => (dB (keptC l now f) : D)) ⟨⟨f_Thing_Id, f_Thing_Kind, f_Thing_Colour, f_Thing_Size, f_Thing_Worth⟩, f_Place, f_At, f_Finder⟩ [] now, (fun (f : TFind) (l : List TClaim) (now : Int) => []) ⟨⟨f_Thing_Id, f_Thing_Kind, f_Thing_Colour, f_Thing_Size, f_Thing_Worth⟩, f_Place, f_At, f_Finder⟩ [] now) :=
  mkCon_fn (fun x y h _ => c58_inj x y h) ((⟨⟨f_Thing_Id, f_Thing_Kind, f_Thing_Colour, f_Thing_Size, f_Thing_Worth⟩, f_Place, f_At, f_Finder⟩, [], now) : TFind × (List TClaim) × Int) (by simp [nz, nz1, ML_nil, encLTClaim, encTFind, encTThing]) rfl
theorem c58_pc (f : TFind) (l : List TClaim) (now : Int) (hpre : l.length ≤ 1073741823) : PCo Tryd.prog 58 [encTFind f, encLTClaim l, dI now] (Tab.of []) (dB (keptC l now f)) (Tab.of []) := by
  refine pco_of_run [1] (E := ⟨[c9, c39, c68], [], []⟩) (m := false) (base := 0) (Env.ok_cons c9_ok (Env.ok_cons c39_ok (Env.ok_cons c68_ok Env.ok_nil))) G_ok mix 300 6 Tryd.func58 (by kernel_rfl) rfl (by kernel_rfl) (by kernel_rfl) rfl ?_
  have hk : keptC l now f = (!mIsDue now f || decide (0 < (getG (bkC l) f.Thing.Id).countP (stateIs 0))) := rfl
  rw [hk]
  have hb := getC_len l f.Thing.Id
  cases h : mIsDue now f with
  | true =>
    obtain ⟨⟨f_Thing_Id, f_Thing_Kind, f_Thing_Colour, f_Thing_Size, f_Thing_Worth⟩, f_Place, f_At, f_Finder⟩ := f
    simp at hb
    simp [Tryd.f58, h]
    repeat' (first | omega | refine And.intro ?_ ?_ | intro _)
  | false =>
    obtain ⟨⟨f_Thing_Id, f_Thing_Kind, f_Thing_Colour, f_Thing_Size, f_Thing_Worth⟩, f_Place, f_At, f_Finder⟩ := f
    simp at hb
    simp [Tryd.f58, h]
    repeat' (first | omega | refine And.intro ?_ ?_ | intro _)
theorem c58_ok : c58.ok Tryd.prog := mkCon_ok fun ⟨f, l, now⟩ hpre => c58_pc f l now hpre
/-- loop.example/g03007/impl.isWorthless -/
noncomputable def c59 : Con := mkCon 59 false (α := TFind × (List TClaim) × Int) (fun x => (fun (f : TFind) (l : List TClaim) (now : Int) => [encTFind f, encLTClaim l, dI now]) x.1 x.2.1 x.2.2) (fun _ => []) (fun x => (fun (f : TFind) (l : List TClaim) (now : Int) => True) x.1 x.2.1 x.2.2) (fun x => (fun (f : TFind) (l : List TClaim) (now : Int) => (dB (decide (f.Thing.Kind = 7) || decide (f.Thing.Worth = 0)) : D)) x.1 x.2.1 x.2.2) (fun x => (fun (f : TFind) (l : List TClaim) (now : Int) => []) x.1 x.2.1 x.2.2)
@[simp] theorem c59_f : c59.f = 59 := rfl
@[simp] theorem c59_own : c59.own = false := rfl
theorem c59_inj : ∀ u_ v_ : TFind × (List TClaim) × Int, ((fun x => (fun (f : TFind) (l : List TClaim) (now : Int) => [encTFind f, encLTClaim l, dI now]) x.1 x.2.1 x.2.2) u_).map nz = ((fun x => (fun (f : TFind) (l : List TClaim) (now : Int) => [encTFind f, encLTClaim l, dI now]) x.1 x.2.1 x.2.2) v_).map nz → u_ = v_ := by
  intro u_ v_ h
  obtain ⟨⟨⟨f_Thing_Id, f_Thing_Kind, f_Thing_Colour, f_Thing_Size, f_Thing_Worth⟩, f_Place, f_At, f_Finder⟩, l, now⟩ := u_
  obtain ⟨⟨⟨f_Thing_Id', f_Thing_Kind', f_Thing_Colour', f_Thing_Size', f_Thing_Worth'⟩, f_Place', f_At', f_Finder'⟩, l', now'⟩ := v_
  simp [nz_lit, nz1_lit, nz_agg, nz_sl, nz1_sl, encLTClaim, encTFind, encTThing] at h
  first | (simp [h]; done) | (obtain ⟨⟩ := h; simp_all; done) | simp_all
@[simp] theorem c59_fn (f_Thing_Id : Int) (f_Thing_Kind : Int) (f_Thing_Colour : Int) (f_Thing_Size : Int) (f_Thing_Worth : Int) (f_Place : Int) (f_At : Int) (f_Finder : Int) (l : List TClaim) (now : Int) : c59.fn [.agg [.lit (.int .i64 f_Thing_Id), .lit (.int .i64 f_Thing_Kind), .lit (.int .i64 f_Thing_Colour), .lit (.int .i64 f_Thing_Size), .lit (.int .i64 f_Thing_Worth), .lit (.int .i64 f_Place), .lit (.int .i64 f_At), .lit (.int .i64 f_Finder)], .sl false 5 yTClaim (ML encTClaim l), .lit (.int .i64 now)] [] = some ((fun (f : TFind) (l : List TClaim) (now : Int) => True) ⟨⟨f_Thing_Id, f_Thing_Kind, f_Thing_Colour, f_Thing_Size, f_Thing_Worth⟩, f_Place, f_At, f_Finder⟩ l now, (fun (f : TFind) (l : List TClaim) (now : Int) => (dB (decide (f.Thing.Kind = 7) || decide (f.Thing.Worth = 0)) : D)) ⟨⟨f_Thing_Id, f_Thing_Kind, f_Thing_Colour, f_Thing_Size, f_Thing_Worth⟩, f_Place, f_At, f_Finder⟩ l now, (fun (f : TFind) (l : List TClaim) (now : Int) => []) ⟨⟨f_Thing_Id, f_Thing_Kind, f_Thing_Colour, f_Thing_Size, f_Thing_Worth⟩, f_Place, f_At, f_Finder⟩ l now) :=
  mkCon_fn (fun x y h _ => c59_inj x y h) ((⟨⟨f_Thing_Id, f_Thing_Kind, f_Thing_Colour, f_Thing_Size, f_Thing_Worth⟩, f_Place, f_At, f_Finder⟩, l, now) : TFind × (List TClaim) × Int) (by simp [nz, nz1, ML_nil, encLTClaim, encTFind, encTThing]) rfl
@[simp] theorem c59_fn1 (f_Thing_Id : Int) (f_Thing_Kind : Int) (f_Thing_Colour : Int) (f_Thing_Size : Int) (f_Thing_Worth : Int) (f_Place : Int) (f_At : Int) (f_Finder : Int) (s_l : Nat) (z_l : D) (now : Int) : c59.fn [.agg [.lit (.int .i64 f_Thing_Id), .lit (.int .i64 f_Thing_Kind), .lit (.int .i64 f_Thing_Colour), .lit (.int .i64 f_Thing_Size), .lit (.int .i64 f_Thing_Worth), .lit (.int .i64 f_Place), .lit (.int .i64 f_At), .lit (.int .i64 f_Finder)], .sl false s_l z_l [], .lit (.int .i64 now)] [] = some ((fun (f : TFind) (l : List TClaim) (now : Int) => True) ⟨⟨f_Thing_Id, f_Thing_Kind, f_Thing_Colour, f_Thing_Size, f_Thing_Worth⟩, f_Place, f_At, f_Finder⟩ [] now, (fun (f : TFind) (l : List TClaim) (now : Int) => (dB (decide (f.Thing.Kind = 7) || decide (f.Thing.Worth = 0)) : D)) ⟨⟨f_Thing_Id, f_Thing_Kind, f_Thing_Colour, f_Thing_Size, f_Thing_Worth⟩, f_Place, f_At, f_Finder⟩ [] now, (fun (f : TFind) (l : List TClaim) (now : Int) => []) ⟨⟨f_Thing_Id, f_Thing_Kind, f_Thing_Colour, f_Thing_Size, f_Thing_Worth⟩, f_Place, f_At, f_Finder⟩ [] now) :=
  mkCon_fn (fun x y h _ => c59_inj x y h) ((⟨⟨f_Thing_Id, f_Thing_Kind, f_Thing_Colour, f_Thing_Size, f_Thing_Worth⟩, f_Place, f_At, f_Finder⟩, [], now) : TFind × (List TClaim) × Int) (by simp [nz, nz1, ML_nil, encLTClaim, encTFind, encTThing]) rfl
theorem c59_pc (f : TFind) (l : List TClaim) (now : Int) : PCo Tryd.prog 59 [encTFind f, encLTClaim l, dI now] (Tab.of []) (dB (decide (f.Thing.Kind = 7) || decide (f.Thing.Worth = 0))) (Tab.of []) := by
  obtain ⟨⟨f_Thing_Id, f_Thing_Kind, f_Thing_Colour, f_Thing_Size, f_Thing_Worth⟩, f_Place, f_At, f_Finder⟩ := f
  refine pco_of_run [] (E := ⟨[], [], []⟩) (m := false) (base := 0) Env.ok_nil G_ok mix 300 6 Tryd.func59 (by kernel_rfl) rfl (by kernel_rfl) (by kernel_rfl) rfl ?_
  simp [Tryd.f59]
  first | done | first | rfl | omega | (rw [Bool.eq_iff_iff]; simp; done) | (rw [Bool.eq_iff_iff]; simp; omega) | (rw [Bool.eq_iff_iff]; simp; grind) | grind
theorem c59_ok : c59.ok Tryd.prog := mkCon_ok fun ⟨f, l, now⟩ hpre => c59_pc f l now
/-- loop.example/g03007/impl.isPrecious -/
noncomputable def c61 : Con := mkCon 61 false (α := TFind × (List TClaim) × Int) (fun x => (fun (f : TFind) (l : List TClaim) (now : Int) => [encTFind f, encLTClaim l, dI now]) x.1 x.2.1 x.2.2) (fun _ => []) (fun x => (fun (f : TFind) (l : List TClaim) (now : Int) => True) x.1 x.2.1 x.2.2) (fun x => (fun (f : TFind) (l : List TClaim) (now : Int) => (dB (decide (5000 < f.Thing.Worth)) : D)) x.1 x.2.1 x.2.2) (fun x => (fun (f : TFind) (l : List TClaim) (now : Int) => []) x.1 x.2.1 x.2.2)
@[simp] theorem c61_f : c61.f = 61 := rfl
@[simp] theorem c61_own : c61.own = false := rfl
theorem c61_inj : ∀ u_ v_ : TFind × (List TClaim) × Int, ((fun x => (fun (f : TFind) (l : List TClaim) (now : Int) => [encTFind f, encLTClaim l, dI now]) x.1 x.2.1 x.2.2) u_).map nz = ((fun x => (fun (f : TFind) (l : List TClaim) (now : Int) => [encTFind f, encLTClaim l, dI now]) x.1 x.2.1 x.2.2) v_).map nz → u_ = v_ := by
  intro u_ v_ h
  obtain ⟨⟨⟨f_Thing_Id, f_Thing_Kind, f_Thing_Colour, f_Thing_Size, f_Thing_Worth⟩, f_Place, f_At, f_Finder⟩, l, now⟩ := u_
  obtain ⟨⟨⟨f_Thing_Id', f_Thing_Kind', f_Thing_Colour', f_Thing_Size', f_Thing_Worth'⟩, f_Place', f_At', f_Finder'⟩, l', now'⟩ := v_
  simp [nz_lit, nz1_lit, nz_agg, nz_sl, nz1_sl, encLTClaim, encTFind, encTThing] at h
  first | (simp [h]; done) | (obtain ⟨⟩ := h; simp_all; done) | simp_all
@[simp] theorem c61_fn (f_Thing_Id : Int) (f_Thing_Kind : Int) (f_Thing_Colour : Int) (f_Thing_Size : Int) (f_Thing_Worth : Int) (f_Place : Int) (f_At : Int) (f_Finder : Int) (l : List TClaim) (now : Int) : c61.fn [.agg [.lit (.int .i64 f_Thing_Id), .lit (.int .i64 f_Thing_Kind), .lit (.int .i64 f_Thing_Colour), .lit (.int .i64 f_Thing_Size), .lit (.int .i64 f_Thing_Worth), .lit (.int .i64 f_Place), .lit (.int .i64 f_At), .lit (.int .i64 f_Finder)], .sl false 5 yTClaim (ML encTClaim l), .lit (.int .i64 now)] [] = some ((fun (f : TFind) (l : List TClaim) (now : Int) => True) ⟨⟨f_Thing_Id, f_Thing_Kind, f_Thing_Colour, f_Thing_Size, f_Thing_Worth⟩, f_Place, f_At, f_Finder⟩ l now, (fun (f : TFind) (l : List TClaim) (now : Int) => (dB (decide (5000 < f.Thing.Worth)) : D)) ⟨⟨f_Thing_Id, f_Thing_Kind, f_Thing_Colour, f_Thing_Size, f_Thing_Worth⟩, f_Place, f_At, f_Finder⟩ l now, (fun (f : TFind) (l : List TClaim) (now : Int) => []) ⟨⟨f_Thing_Id, f_Thing_Kind, f_Thing_Colour, f_Thing_Size, f_Thing_Worth⟩, f_Place, f_At, f_Finder⟩ l now) :=
  mkCon_fn (fun x y h _ => c61_inj x y h) ((⟨⟨f_Thing_Id, f_Thing_Kind, f_Thing_Colour, f_Thing_Size, f_Thing_Worth⟩, f_Place, f_At, f_Finder⟩, l, now) : TFind × (List TClaim) × Int) (by simp [nz, nz1, ML_nil, encLTClaim, encTFind, encTThing]) rfl
@[simp] theorem c61_fn1 (f_Thing_Id : Int) (f_Thing_Kind : Int) (f_Thing_Colour : Int) (f_Thing_Size : Int) (f_Thing_Worth : Int) (f_Place : Int) (f_At : Int) (f_Finder : Int) (s_l : Nat) (z_l : D) (now : Int) : c61.fn [.agg [.lit (.int .i64 f_Thing_Id), .lit (.int .i64 f_Thing_Kind), .lit (.int .i64 f_Thing_Colour), .lit (.int .i64 f_Thing_Size), .lit (.int .i64 f_Thing_Worth), .lit (.int .i64 f_Place), .lit (.int .i64 f_At), .lit (.int .i64 f_Finder)], .sl false s_l z_l [], .lit (.int .i64 now)] [] = some ((fun (f : TFind) (l : List TClaim) (now : Int) => True) ⟨⟨f_Thing_Id, f_Thing_Kind, f_Thing_Colour, f_Thing_Size, f_Thing_Worth⟩, f_Place, f_At, f_Finder⟩ [] now, (fun (f : TFind) (l : List TClaim) (now : Int) => (dB (decide (5000 < f.Thing.Worth)) : D)) ⟨⟨f_Thing_Id, f_Thing_Kind, f_Thing_Colour, f_Thing_Size, f_Thing_Worth⟩, f_Place, f_At, f_Finder⟩ [] now, (fun (f : TFind) (l : List TClaim) (now : Int) => []) ⟨⟨f_Thing_Id, f_Thing_Kind, f_Thing_Colour, f_Thing_Size, f_Thing_Worth⟩, f_Place, f_At, f_Finder⟩ [] now) :=
  mkCon_fn (fun x y h _ => c61_inj x y h) ((⟨⟨f_Thing_Id, f_Thing_Kind, f_Thing_Colour, f_Thing_Size, f_Thing_Worth⟩, f_Place, f_At, f_Finder⟩, [], now) : TFind × (List TClaim) × Int) (by simp [nz, nz1, ML_nil, encLTClaim, encTFind, encTThing]) rfl
theorem c61_pc (f : TFind) (l : List TClaim) (now : Int) : PCo Tryd.prog 61 [encTFind f, encLTClaim l, dI now] (Tab.of []) (dB (decide (5000 < f.Thing.Worth))) (Tab.of []) := by
  obtain ⟨⟨f_Thing_Id, f_Thing_Kind, f_Thing_Colour, f_Thing_Size, f_Thing_Worth⟩, f_Place, f_At, f_Finder⟩ := f
  refine pco_of_run [] (E := ⟨[], [], []⟩) (m := false) (base := 0) Env.ok_nil G_ok mix 300 6 Tryd.func61 (by kernel_rfl) rfl (by kernel_rfl) (by kernel_rfl) rfl ?_
  simp [Tryd.f61]
  all_goals first | omega | (rw [Bool.eq_iff_iff]; simp; omega) | grind
theorem c61_ok : c61.ok Tryd.prog := mkCon_ok fun ⟨f, l, now⟩ hpre => c61_pc f l now
/-- loop.example/g03007/impl.isForFinder -/
noncomputable def c60 : Con := mkCon 60 false (α := TFind × (List TClaim) × Int) (fun x => (fun (f : TFind) (l : List TClaim) (now : Int) => [encTFind f, encLTClaim l, dI now]) x.1 x.2.1 x.2.2) (fun _ => []) (fun x => (fun (f : TFind) (l : List TClaim) (now : Int) => True) x.1 x.2.1 x.2.2) (fun x => (fun (f : TFind) (l : List TClaim) (now : Int) => (dB (decide (f.Finder ≠ 0) && !decide (5000 < f.Thing.Worth)) : D)) x.1 x.2.1 x.2.2) (fun x => (fun (f : TFind) (l : List TClaim) (now : Int) => []) x.1 x.2.1 x.2.2)
@[simp] theorem c60_f : c60.f = 60 := rfl
@[simp] theorem c60_own : c60.own = false := rfl
theorem c60_inj : ∀ u_ v_ : TFind × (List TClaim) × Int, ((fun x => (fun (f : TFind) (l : List TClaim) (now : Int) => [encTFind f, encLTClaim l, dI now]) x.1 x.2.1 x.2.2) u_).map nz = ((fun x => (fun (f : TFind) (l : List TClaim) (now : Int) => [encTFind f, encLTClaim l, dI now]) x.1 x.2.1 x.2.2) v_).map nz → u_ = v_ := by
  intro u_ v_ h
  obtain ⟨⟨⟨f_Thing_Id, f_Thing_Kind, f_Thing_Colour, f_Thing_Size, f_Thing_Worth⟩, f_Place, f_At, f_Finder⟩, l, now⟩ := u_
  obtain ⟨⟨⟨f_Thing_Id', f_Thing_Kind', f_Thing_Colour', f_Thing_Size', f_Thing_Worth'⟩, f_Place', f_At', f_Finder'⟩, l', now'⟩ := v_
  simp [nz_lit, nz1_lit, nz_agg, nz_sl, nz1_sl, encLTClaim, encTFind, encTThing] at h
  first | (simp [h]; done) | (obtain ⟨⟩ := h; simp_all; done) | simp_all
@[simp] theorem c60_fn (f_Thing_Id : Int) (f_Thing_Kind : Int) (f_Thing_Colour : Int) (f_Thing_Size : Int) (f_Thing_Worth : Int) (f_Place : Int) (f_At : Int) (f_Finder : Int) (l : List TClaim) (now : Int) : c60.fn [.agg [.lit (.int .i64 f_Thing_Id), .lit (.int .i64 f_Thing_Kind), .lit (.int .i64 f_Thing_Colour), .lit (.int .i64 f_Thing_Size), .lit (.int .i64 f_Thing_Worth), .lit (.int .i64 f_Place), .lit (.int .i64 f_At), .lit (.int .i64 f_Finder)], .sl false 5 yTClaim (ML encTClaim l), .lit (.int .i64 now)] [] = some ((fun (f : TFind) (l : List TClaim) (now : Int) => True) ⟨⟨f_Thing_Id, f_Thing_Kind, f_Thing_Colour, f_Thing_Size, f_Thing_Worth⟩, f_Place, f_At, f_Finder⟩ l now, (fun (f : TFind) (l : List TClaim) (now : Int) => (dB (decide (f.Finder ≠ 0) && !decide (5000 < f.Thing.Worth)) : D)) ⟨⟨f_Thing_Id, f_Thing_Kind, f_Thing_Colour, f_Thing_Size, f_Thing_Worth⟩, f_Place, f_At, f_Finder⟩ l now, (fun (f : TFind) (l : List TClaim) (now : Int) => []) ⟨⟨f_Thing_Id, f_Thing_Kind, f_Thing_Colour, f_Thing_Size, f_Thing_Worth⟩, f_Place, f_At, f_Finder⟩ l now) :=
  mkCon_fn (fun x y h _ => c60_inj x y h) ((⟨⟨f_Thing_Id, f_Thing_Kind, f_Thing_Colour, f_Thing_Size, f_Thing_Worth⟩, f_Place, f_At, f_Finder⟩, l, now) : TFind × (List TClaim) × Int) (by simp [nz, nz1, ML_nil, encLTClaim, encTFind, encTThing]) rfl
@[simp] theorem c60_fn1 (f_Thing_Id : Int) (f_Thing_Kind : Int) (f_Thing_Colour : Int) (f_Thing_Size : Int) (f_Thing_Worth : Int) (f_Place : Int) (f_At : Int) (f_Finder : Int) (s_l : Nat) (z_l : D) (now : Int) : c60.fn [.agg [.lit (.int .i64 f_Thing_Id), .lit (.int .i64 f_Thing_Kind), .lit (.int .i64 f_Thing_Colour), .lit (.int .i64 f_Thing_Size), .lit (.int .i64 f_Thing_Worth), .lit (.int .i64 f_Place), .lit (.int .i64 f_At), .lit (.int .i64 f_Finder)], .sl false s_l z_l [], .lit (.int .i64 now)] [] = some ((fun (f : TFind) (l : List TClaim) (now : Int) => True) ⟨⟨f_Thing_Id, f_Thing_Kind, f_Thing_Colour, f_Thing_Size, f_Thing_Worth⟩, f_Place, f_At, f_Finder⟩ [] now, (fun (f : TFind) (l : List TClaim) (now : Int) => (dB (decide (f.Finder ≠ 0) && !decide (5000 < f.Thing.Worth)) : D)) ⟨⟨f_Thing_Id, f_Thing_Kind, f_Thing_Colour, f_Thing_Size, f_Thing_Worth⟩, f_Place, f_At, f_Finder⟩ [] now, (fun (f : TFind) (l : List TClaim) (now : Int) => []) ⟨⟨f_Thing_Id, f_Thing_Kind, f_Thing_Colour, f_Thing_Size, f_Thing_Worth⟩, f_Place, f_At, f_Finder⟩ [] now) :=
  mkCon_fn (fun x y h _ => c60_inj x y h) ((⟨⟨f_Thing_Id, f_Thing_Kind, f_Thing_Colour, f_Thing_Size, f_Thing_Worth⟩, f_Place, f_At, f_Finder⟩, [], now) : TFind × (List TClaim) × Int) (by simp [nz, nz1, ML_nil, encLTClaim, encTFind, encTThing]) rfl
theorem c60_pc (f : TFind) (l : List TClaim) (now : Int) : PCo Tryd.prog 60 [encTFind f, encLTClaim l, dI now] (Tab.of []) (dB (decide (f.Finder ≠ 0) && !decide (5000 < f.Thing.Worth))) (Tab.of []) := by
  obtain ⟨⟨f_Thing_Id, f_Thing_Kind, f_Thing_Colour, f_Thing_Size, f_Thing_Worth⟩, f_Place, f_At, f_Finder⟩ := f
  refine pco_of_run [] (E := ⟨[c61], [], []⟩) (m := false) (base := 0) (Env.ok_cons c61_ok Env.ok_nil) G_ok mix 300 6 Tryd.func60 (by kernel_rfl) rfl (by kernel_rfl) (by kernel_rfl) rfl ?_
  simp [Tryd.f60]
  first | done | first | rfl | omega | (rw [Bool.eq_iff_iff]; simp; done) | (rw [Bool.eq_iff_iff]; simp; omega) | (rw [Bool.eq_iff_iff]; simp; grind) | grind
theorem c60_ok : c60.ok Tryd.prog := mkCon_ok fun ⟨f, l, now⟩ hpre => c60_pc f l now
/-- loop.example/g03007/impl.fateRules -/
noncomputable def c42 : Con := mkCon 42 false (α := Unit) (fun _ => []) (fun _ => []) (fun _ => True) (fun _ => (.sl false 2 .any [.agg [dI 1, .fn (.func 57) [] []], .agg [dI 0, .fn (.func 58) [] []], .agg [dI 5, .fn (.func 59) [] []], .agg [dI 2, .fn (.func 60) [] []], .agg [dI 3, .fn (.func 61) [] []]] : D)) (fun _ => [])
@[simp] theorem c42_f : c42.f = 42 := rfl
@[simp] theorem c42_own : c42.own = false := rfl
theorem c42_inj : ∀ x y : Unit, ((fun _ => []) x).map nz = ((fun _ => []) y).map nz → x = y := fun _ _ _ => rfl
@[simp] theorem c42_fn : c42.fn [] [] = some (True, (.sl false 2 .any [.agg [dI 1, .fn (.func 57) [] []], .agg [dI 0, .fn (.func 58) [] []], .agg [dI 5, .fn (.func 59) [] []], .agg [dI 2, .fn (.func 60) [] []], .agg [dI 3, .fn (.func 61) [] []]] : D), []) :=
  mkCon_fn (fun x y h _ => c42_inj x y h) (() : Unit) (by simp [nz, nz1, ML_nil]) rfl
theorem c42_pc  : PCo Tryd.prog 42 [] (Tab.of []) (.sl false 2 .any [.agg [dI 1, .fn (.func 57) [] []], .agg [dI 0, .fn (.func 58) [] []], .agg [dI 5, .fn (.func 59) [] []], .agg [dI 2, .fn (.func 60) [] []], .agg [dI 3, .fn (.func 61) [] []]]) (Tab.of []) := by
  refine pco_of_run [] (E := ⟨[c57, c58, c59, c60, c61], [], []⟩) (m := false) (base := 0) (Env.ok_cons c57_ok (Env.ok_cons c58_ok (Env.ok_cons c59_ok (Env.ok_cons c60_ok (Env.ok_cons c61_ok Env.ok_nil))))) G_ok mix 300 6 Tryd.func42 (by kernel_rfl) rfl (by kernel_rfl) (by kernel_rfl) rfl ?_
  simp [Tryd.f42]
  all_goals first | omega | (rw [Bool.eq_iff_iff]; simp; omega) | grind
theorem c42_ok : c42.ok Tryd.prog := mkCon_ok fun _ hpre => c42_pc 
def mFates (f : List TFind) (l : List TClaim) (now : Int) : List Int := f.map (mFateOf l now)
theorem mFates_len (f : List TFind) (l : List TClaim) (now : Int) : (mFates f l now).length = f.length := by simp [mFates]
/-- loop.example/g03007/impl.FatesOf -/
noncomputable def c23 : Con := mkCon 23 false (α := (List TFind) × (List TClaim) × Int) (fun x => (fun (f : List TFind) (l : List TClaim) (now : Int) => [encLTFind f, encLTClaim l, dI now]) x.1 x.2.1 x.2.2) (fun _ => []) (fun x => (fun (f : List TFind) (l : List TClaim) (now : Int) => f.length ≤ 1073741823 ∧ l.length ≤ 1073741823) x.1 x.2.1 x.2.2) (fun x => (fun (f : List TFind) (l : List TClaim) (now : Int) => (.own (0, 1) 1 0 (mFates f l now).length : D)) x.1 x.2.1 x.2.2) (fun x => (fun (f : List TFind) (l : List TClaim) (now : Int) => [((0, 1), .arr false 1 (dI 0) (ML dI (mFates f l now)))]) x.1 x.2.1 x.2.2)
@[simp] theorem c23_f : c23.f = 23 := rfl
@[simp] theorem c23_own : c23.own = false := rfl
theorem c23_inj : ∀ u_ v_ : (List TFind) × (List TClaim) × Int, ((fun x => (fun (f : List TFind) (l : List TClaim) (now : Int) => [encLTFind f, encLTClaim l, dI now]) x.1 x.2.1 x.2.2) u_).map nz = ((fun x => (fun (f : List TFind) (l : List TClaim) (now : Int) => [encLTFind f, encLTClaim l, dI now]) x.1 x.2.1 x.2.2) v_).map nz → u_ = v_ := by
  intro u_ v_ h
  obtain ⟨f, l, now⟩ := u_
  obtain ⟨f', l', now'⟩ := v_
  simp [nz_lit, nz1_lit, nz_agg, nz_sl, nz1_sl, encLTClaim, encLTFind] at h
  first | (simp [h]; done) | (obtain ⟨⟩ := h; simp_all; done) | simp_all
@[simp] theorem c23_fn (f : List TFind) (l : List TClaim) (now : Int) : c23.fn [.sl false 8 yTFind (ML encTFind f), .sl false 5 yTClaim (ML encTClaim l), .lit (.int .i64 now)] [] = some ((fun (f : List TFind) (l : List TClaim) (now : Int) => f.length ≤ 1073741823 ∧ l.length ≤ 1073741823) f l now, (fun (f : List TFind) (l : List TClaim) (now : Int) => (.own (0, 1) 1 0 (mFates f l now).length : D)) f l now, (fun (f : List TFind) (l : List TClaim) (now : Int) => [((0, 1), .arr false 1 (dI 0) (ML dI (mFates f l now)))]) f l now) :=
  mkCon_fn (fun x y h _ => c23_inj x y h) ((f, l, now) : (List TFind) × (List TClaim) × Int) (by simp [nz, nz1, ML_nil, encLTClaim, encLTFind]) rfl
@[simp] theorem c23_fn1 (s_f : Nat) (z_f : D) (l : List TClaim) (now : Int) : c23.fn [.sl false s_f z_f [], .sl false 5 yTClaim (ML encTClaim l), .lit (.int .i64 now)] [] = some ((fun (f : List TFind) (l : List TClaim) (now : Int) => f.length ≤ 1073741823 ∧ l.length ≤ 1073741823) [] l now, (fun (f : List TFind) (l : List TClaim) (now : Int) => (.own (0, 1) 1 0 (mFates f l now).length : D)) [] l now, (fun (f : List TFind) (l : List TClaim) (now : Int) => [((0, 1), .arr false 1 (dI 0) (ML dI (mFates f l now)))]) [] l now) :=
  mkCon_fn (fun x y h _ => c23_inj x y h) (([], l, now) : (List TFind) × (List TClaim) × Int) (by simp [nz, nz1, ML_nil, encLTClaim, encLTFind]) rfl
@[simp] theorem c23_fn2 (f : List TFind) (s_l : Nat) (z_l : D) (now : Int) : c23.fn [.sl false 8 yTFind (ML encTFind f), .sl false s_l z_l [], .lit (.int .i64 now)] [] = some ((fun (f : List TFind) (l : List TClaim) (now : Int) => f.length ≤ 1073741823 ∧ l.length ≤ 1073741823) f [] now, (fun (f : List TFind) (l : List TClaim) (now : Int) => (.own (0, 1) 1 0 (mFates f l now).length : D)) f [] now, (fun (f : List TFind) (l : List TClaim) (now : Int) => [((0, 1), .arr false 1 (dI 0) (ML dI (mFates f l now)))]) f [] now) :=
  mkCon_fn (fun x y h _ => c23_inj x y h) ((f, [], now) : (List TFind) × (List TClaim) × Int) (by simp [nz, nz1, ML_nil, encLTClaim, encLTFind]) rfl
@[simp] theorem c23_fn3 (s_f : Nat) (z_f : D) (s_l : Nat) (z_l : D) (now : Int) : c23.fn [.sl false s_f z_f [], .sl false s_l z_l [], .lit (.int .i64 now)] [] = some ((fun (f : List TFind) (l : List TClaim) (now : Int) => f.length ≤ 1073741823 ∧ l.length ≤ 1073741823) [] [] now, (fun (f : List TFind) (l : List TClaim) (now : Int) => (.own (0, 1) 1 0 (mFates f l now).length : D)) [] [] now, (fun (f : List TFind) (l : List TClaim) (now : Int) => [((0, 1), .arr false 1 (dI 0) (ML dI (mFates f l now)))]) [] [] now) :=
  mkCon_fn (fun x y h _ => c23_inj x y h) (([], [], now) : (List TFind) × (List TClaim) × Int) (by simp [nz, nz1, ML_nil, encLTClaim, encLTFind]) rfl
theorem c23_pc (f : List TFind) (l : List TClaim) (now : Int) (hpre : f.length ≤ 1073741823 ∧ l.length ≤ 1073741823) : PCo Tryd.prog 23 [encLTFind f, encLTClaim l, dI now] (Tab.of []) (.own (0, 1) 1 0 (mFates f l now).length) (Tab.of [((0, 1), .arr false 1 (dI 0) (ML dI (mFates f l now)))]) := by
  refine pco_of_run [] (E := ⟨[c42, c57, c58, c59, c60, c61], [], []⟩) (m := false) (base := 0) (Env.ok_cons c42_ok (Env.ok_cons c57_ok (Env.ok_cons c58_ok (Env.ok_cons c59_ok (Env.ok_cons c60_ok (Env.ok_cons c61_ok Env.ok_nil)))))) G_ok mix 300 6 Tryd.func23 (by kernel_rfl) rfl (by kernel_rfl) (by kernel_rfl) rfl ?_
  simp [Tryd.f23]
  obtain ⟨pre1, pre2⟩ := hpre
  refine loop_inv (fun p : Nat => p ≤ f.length) (fun p => [(1, encLTClaim l), (2, dI now), (7, .own (0, 1) 1 0 p), (13, encLTFind f), (14, dI f.length), (15, dI p)]) (fun p => [((0, 1), .arr false 1 (dI 0) (ML dI ((f.take p).map (mFateOf l now))))]) 2 (fun p => f.length - p) 0 400 (by simp) (by simp) (by simp) ?_
  intro p hp
  simp
  refine ⟨fun hlt => ⟨hlt, ?_⟩, fun hge => ?_⟩
  · have hs : (f.take (p + 1)).map (mFateOf l now) = (f.take p).map (mFateOf l now) ++ [mFateOf l now (f[p]?.getD default)] := by rw [take_at (d := default) hlt]; simp
    have hm : min p f.length = p := by omega
    have hm2 : min (p + 1) f.length = p + 1 := by omega
    have hv : ∀ v, mFateOf l now (f[p]?.getD default) = v → List.take p (List.map (mFateOf l now) f) ++ [v] = List.take (p + 1) (List.map (mFateOf l now) f) := fun v e => by rw [← List.map_take, ← List.map_take, hs, e]
    have hl : (List.take p (List.map (mFateOf l now) f)).length = p := by simp; omega
    generalize hx : f[p]?.getD default = x at *
    rcases fate_cases l now x with ⟨h1, e⟩ | ⟨h1, h2, e⟩ | ⟨h1, h2, h3, e⟩ | ⟨h1, h2, h3, h4, e⟩ | ⟨h1, h2, h3, h4, h5, e⟩ | ⟨h1, h2, h3, h4, h5, e⟩
    · refine loop_unroll 400 ?_
      simp [h1]
      repeat' (first | omega | refine And.intro ?_ ?_ | intro _)
      exact Again.mk (p + 1) (by omega) (by simp [hv _ e, hl, hm, hm2]) (by first | omega | (simp; omega))
    · refine loop_unroll 400 ?_
      simp [h1, h2]
      repeat' (first | omega | refine And.intro ?_ ?_ | intro _)
      exact Again.mk (p + 1) (by omega) (by simp [hv _ e, hl, hm, hm2]) (by first | omega | (simp; omega))
    · refine loop_unroll 400 ?_
      simp [h1, h2, h3]
      repeat' (first | omega | refine And.intro ?_ ?_ | intro _)
      exact Again.mk (p + 1) (by omega) (by simp [hv _ e, hl, hm, hm2]) (by first | omega | (simp; omega))
    · refine loop_unroll 400 ?_
      simp [h1, h2, h3, h4]
      repeat' (first | omega | refine And.intro ?_ ?_ | intro _)
      exact Again.mk (p + 1) (by omega) (by simp [hv _ e, hl, hm, hm2]) (by first | omega | (simp; omega))
    · refine loop_unroll 400 ?_
      simp [h1, h2, h3, h4]
      have e2 := hv _ e
      clear hv
      repeat' (first | omega | refine And.intro ?_ ?_ | intro _)
      all_goals first | (exfalso; omega) | exact Again.mk (p + 1) (by omega) (by simp [e2, hl, hm, hm2]) (by first | omega | (simp; omega))
    · refine loop_unroll 400 ?_
      simp [h1, h2, h3, h4]
      have e2 := hv _ e
      clear hv
      repeat' (first | omega | refine And.intro ?_ ?_ | intro _)
      all_goals first | (exfalso; omega) | exact Again.mk (p + 1) (by omega) (by simp [e2, hl, hm, hm2]) (by first | omega | (simp; omega))
  · have : p = f.length := by omega
    subst this; simp [← List.map_take, mFates]
theorem c23_ok : c23.ok Tryd.prog := mkCon_ok fun ⟨f, l, now⟩ hpre => c23_pc f l now hpre

end Go.Proofs.YtpnfkjbnhholfaaDoor
