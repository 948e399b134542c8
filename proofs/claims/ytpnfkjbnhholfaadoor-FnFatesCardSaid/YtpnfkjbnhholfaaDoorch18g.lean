/- Contracts of the functions that the laws run. -/
import Derived.Test.YtpnfkjbnhholfaaDoorch18f
import Derived.Test.YtpnfkjbnhholfaaDoorch26
import Derived.Test.YtpnfkjbnhholfaaDoorEngB
namespace Go.Proofs.YtpnfkjbnhholfaaDoor
open Go Go.Eng
set_option linter.unusedSimpArgs false
set_option linter.unusedVariables false
set_option maxRecDepth 10000
set_option maxHeartbeats 1000000
@[simp] theorem c23_one (a1 a2 a3 a4 a5 a6 a7 a8 : Int) (l : List TClaim) (now : Int) : c23.fn [.sl false 8 yTFind [.agg [.lit (.int .i64 a1), .lit (.int .i64 a2), .lit (.int .i64 a3), .lit (.int .i64 a4), .lit (.int .i64 a5), .lit (.int .i64 a6), .lit (.int .i64 a7), .lit (.int .i64 a8)]], .sl false 5 yTClaim (ML encTClaim l), .lit (.int .i64 now)] [] = some (1 ≤ 1073741823 ∧ l.length ≤ 1073741823, .own (0, 1) 1 0 1, [((0, 1), .arr false 1 (dI 0) [dI (mFateOf l now ⟨⟨a1, a2, a3, a4, a5⟩, a6, a7, a8⟩)])]) :=
  c23_fn [⟨⟨a1, a2, a3, a4, a5⟩, a6, a7, a8⟩] l now
/-- loop.example/g03007/impl.FateOf -/
noncomputable def c18 : Con := mkCon 18 false (α := TFind × (List TClaim) × Int) (fun x => (fun (f : TFind) (l : List TClaim) (now : Int) => [encTFind f, encLTClaim l, dI now]) x.1 x.2.1 x.2.2) (fun _ => []) (fun x => (fun (f : TFind) (l : List TClaim) (now : Int) => l.length ≤ 1073741823) x.1 x.2.1 x.2.2) (fun x => (fun (f : TFind) (l : List TClaim) (now : Int) => (dI (mFateOf l now f) : D)) x.1 x.2.1 x.2.2) (fun x => (fun (f : TFind) (l : List TClaim) (now : Int) => []) x.1 x.2.1 x.2.2)
@[simp] theorem c18_f : c18.f = 18 := rfl
@[simp] theorem c18_own : c18.own = false := rfl
theorem c18_inj : ∀ u_ v_ : TFind × (List TClaim) × Int, ((fun x => (fun (f : TFind) (l : List TClaim) (now : Int) => [encTFind f, encLTClaim l, dI now]) x.1 x.2.1 x.2.2) u_).map nz = ((fun x => (fun (f : TFind) (l : List TClaim) (now : Int) => [encTFind f, encLTClaim l, dI now]) x.1 x.2.1 x.2.2) v_).map nz → u_ = v_ := by
  intro u_ v_ h
  obtain ⟨⟨⟨f_Thing_Id, f_Thing_Kind, f_Thing_Colour, f_Thing_Size, f_Thing_Worth⟩, f_Place, f_At, f_Finder⟩, l, now⟩ := u_
  obtain ⟨⟨⟨f_Thing_Id', f_Thing_Kind', f_Thing_Colour', f_Thing_Size', f_Thing_Worth'⟩, f_Place', f_At', f_Finder'⟩, l', now'⟩ := v_
  simp [nz_lit, nz1_lit, nz_agg, nz_sl, nz1_sl, encLTClaim, encTFind, encTThing] at h
  first | (simp [h]; done) | (obtain ⟨⟩ := h; simp_all; done) | simp_all
@[simp] theorem c18_fn (f_Thing_Id : Int) (f_Thing_Kind : Int) (f_Thing_Colour : Int) (f_Thing_Size : Int) (f_Thing_Worth : Int) (f_Place : Int) (f_At : Int) (f_Finder : Int) (l : List TClaim) (now : Int) : c18.fn [.agg [.lit (.int .i64 f_Thing_Id), .lit (.int .i64 f_Thing_Kind), .lit (.int .i64 f_Thing_Colour), .lit (.int .i64 f_Thing_Size), .lit (.int .i64 f_Thing_Worth), .lit (.int .i64 f_Place), .lit (.int .i64 f_At), .lit (.int .i64 f_Finder)], .sl false 5 yTClaim (ML encTClaim l), .lit (.int .i64 now)] [] = some ((fun (f : TFind) (l : List TClaim) (now : Int) => l.length ≤ 1073741823) ⟨⟨f_Thing_Id, f_Thing_Kind, f_Thing_Colour, f_Thing_Size, f_Thing_Worth⟩, f_Place, f_At, f_Finder⟩ l now, (fun (f : TFind) (l : List TClaim) (now : Int) => (dI (mFateOf l now f) : D)) ⟨⟨f_Thing_Id, f_Thing_Kind, f_Thing_Colour, f_Thing_Size, f_Thing_Worth⟩, f_Place, f_At, f_Finder⟩ l now, (fun (f : TFind) (l : List TClaim) (now : Int) => []) ⟨⟨f_Thing_Id, f_Thing_Kind, f_Thing_Colour, f_Thing_Size, f_Thing_Worth⟩, f_Place, f_At, f_Finder⟩ l now) :=
  mkCon_fn (fun x y h _ => c18_inj x y h) ((⟨⟨f_Thing_Id, f_Thing_Kind, f_Thing_Colour, f_Thing_Size, f_Thing_Worth⟩, f_Place, f_At, f_Finder⟩, l, now) : TFind × (List TClaim) × Int) (by simp [nz, nz1, ML_nil, encLTClaim, encTFind, encTThing]) rfl
@[simp] theorem c18_fn1 (f_Thing_Id : Int) (f_Thing_Kind : Int) (f_Thing_Colour : Int) (f_Thing_Size : Int) (f_Thing_Worth : Int) (f_Place : Int) (f_At : Int) (f_Finder : Int) (s_l : Nat) (z_l : D) (now : Int) : c18.fn [.agg [.lit (.int .i64 f_Thing_Id), .lit (.int .i64 f_Thing_Kind), .lit (.int .i64 f_Thing_Colour), .lit (.int .i64 f_Thing_Size), .lit (.int .i64 f_Thing_Worth), .lit (.int .i64 f_Place), .lit (.int .i64 f_At), .lit (.int .i64 f_Finder)], .sl false s_l z_l [], .lit (.int .i64 now)] [] = some ((fun (f : TFind) (l : List TClaim) (now : Int) => l.length ≤ 1073741823) ⟨⟨f_Thing_Id, f_Thing_Kind, f_Thing_Colour, f_Thing_Size, f_Thing_Worth⟩, f_Place, f_At, f_Finder⟩ [] now, (fun (f : TFind) (l : List TClaim) (now : Int) => (dI (mFateOf l now f) : D)) ⟨⟨f_Thing_Id, f_Thing_Kind, f_Thing_Colour, f_Thing_Size, f_Thing_Worth⟩, f_Place, f_At, f_Finder⟩ [] now, (fun (f : TFind) (l : List TClaim) (now : Int) => []) ⟨⟨f_Thing_Id, f_Thing_Kind, f_Thing_Colour, f_Thing_Size, f_Thing_Worth⟩, f_Place, f_At, f_Finder⟩ [] now) :=
  mkCon_fn (fun x y h _ => c18_inj x y h) ((⟨⟨f_Thing_Id, f_Thing_Kind, f_Thing_Colour, f_Thing_Size, f_Thing_Worth⟩, f_Place, f_At, f_Finder⟩, [], now) : TFind × (List TClaim) × Int) (by simp [nz, nz1, ML_nil, encLTClaim, encTFind, encTThing]) rfl
theorem c18_pc (f : TFind) (l : List TClaim) (now : Int) (hpre : l.length ≤ 1073741823) : PCo Tryd.prog 18 [encTFind f, encLTClaim l, dI now] (Tab.of []) (dI (mFateOf l now f)) (Tab.of []) := by
  obtain ⟨⟨f_Thing_Id, f_Thing_Kind, f_Thing_Colour, f_Thing_Size, f_Thing_Worth⟩, f_Place, f_At, f_Finder⟩ := f
  refine pco_of_run [] (E := ⟨[c23], [], []⟩) (m := false) (base := 0) (Env.ok_cons c23_ok Env.ok_nil) G_ok mix 300 6 Tryd.func18 (by kernel_rfl) rfl (by kernel_rfl) (by kernel_rfl) rfl ?_
  simp [Tryd.f18]
  exact hpre
theorem c18_ok : c18.ok Tryd.prog := mkCon_ok fun ⟨f, l, now⟩ hpre => c18_pc f l now hpre
def anyOpen (l : List TClaim) (k : Int) : Bool := l.any fun x => decide (x.Thing = k) && stateIs 0 x
theorem open_eq (l : List TClaim) (k : Int) : decide (0 < (getG (bkC l) k).countP (stateIs 0)) = anyOpen l k := by
  rw [bk_get, anyOpen, Bool.eq_iff_iff, decide_eq_true_eq, count_any, List.any_eq_true]
  constructor
  · rintro ⟨y, h1, h2, h3⟩
    refine ⟨y, h1, ?_⟩
    have h4 : y.Thing = k := of_decide_eq_true h2
    simp [h4, h3]
  · rintro ⟨y, h1, h2⟩
    simp at h2
    exact ⟨y, h1, by simp [thIs, h2.1], h2.2⟩
theorem fate_spec (l : List TClaim) (now : Int) (f : TFind) : mFateOf l now f = if mFirst l f.Thing.Id ≠ 0 then 1 else if anyOpen l f.Thing.Id = true then 0 else if mIsDue now f = false then 0 else if f.Thing.Kind = 7 ∨ f.Thing.Worth = 0 then 5 else if 5000 < f.Thing.Worth then 3 else if f.Finder ≠ 0 then 2 else 4 := by
  rw [mFateOf, keptC, open_eq]
  cases anyOpen l f.Thing.Id <;> cases mIsDue now f <;> simp
/-- loop.example/g03007/impl.MustKeep -/
noncomputable def c21 : Con := mkCon 21 false (α := TFind × (List TClaim) × Int) (fun x => (fun (f : TFind) (l : List TClaim) (now : Int) => [encTFind f, encLTClaim l, dI now]) x.1 x.2.1 x.2.2) (fun _ => []) (fun x => (fun (f : TFind) (l : List TClaim) (now : Int) => l.length ≤ 1073741823) x.1 x.2.1 x.2.2) (fun x => (fun (f : TFind) (l : List TClaim) (now : Int) => (dB (decide (mFateOf l now f ≤ 1)) : D)) x.1 x.2.1 x.2.2) (fun x => (fun (f : TFind) (l : List TClaim) (now : Int) => []) x.1 x.2.1 x.2.2)
@[simp] theorem c21_f : c21.f = 21 := rfl
@[simp] theorem c21_own : c21.own = false := rfl
theorem c21_inj : ∀ u_ v_ : TFind × (List TClaim) × Int, ((fun x => (fun (f : TFind) (l : List TClaim) (now : Int) => [encTFind f, encLTClaim l, dI now]) x.1 x.2.1 x.2.2) u_).map nz = ((fun x => (fun (f : TFind) (l : List TClaim) (now : Int) => [encTFind f, encLTClaim l, dI now]) x.1 x.2.1 x.2.2) v_).map nz → u_ = v_ := by
  intro u_ v_ h
  obtain ⟨⟨⟨f_Thing_Id, f_Thing_Kind, f_Thing_Colour, f_Thing_Size, f_Thing_Worth⟩, f_Place, f_At, f_Finder⟩, l, now⟩ := u_
  obtain ⟨⟨⟨f_Thing_Id', f_Thing_Kind', f_Thing_Colour', f_Thing_Size', f_Thing_Worth'⟩, f_Place', f_At', f_Finder'⟩, l', now'⟩ := v_
  simp [nz_lit, nz1_lit, nz_agg, nz_sl, nz1_sl, encLTClaim, encTFind, encTThing] at h
  first | (simp [h]; done) | (obtain ⟨⟩ := h; simp_all; done) | simp_all
@[simp] theorem c21_fn (f_Thing_Id : Int) (f_Thing_Kind : Int) (f_Thing_Colour : Int) (f_Thing_Size : Int) (f_Thing_Worth : Int) (f_Place : Int) (f_At : Int) (f_Finder : Int) (l : List TClaim) (now : Int) : c21.fn [.agg [.lit (.int .i64 f_Thing_Id), .lit (.int .i64 f_Thing_Kind), .lit (.int .i64 f_Thing_Colour), .lit (.int .i64 f_Thing_Size), .lit (.int .i64 f_Thing_Worth), .lit (.int .i64 f_Place), .lit (.int .i64 f_At), .lit (.int .i64 f_Finder)], .sl false 5 yTClaim (ML encTClaim l), .lit (.int .i64 now)] [] = some ((fun (f : TFind) (l : List TClaim) (now : Int) => l.length ≤ 1073741823) ⟨⟨f_Thing_Id, f_Thing_Kind, f_Thing_Colour, f_Thing_Size, f_Thing_Worth⟩, f_Place, f_At, f_Finder⟩ l now, (fun (f : TFind) (l : List TClaim) (now : Int) => (dB (decide (mFateOf l now f ≤ 1)) : D)) ⟨⟨f_Thing_Id, f_Thing_Kind, f_Thing_Colour, f_Thing_Size, f_Thing_Worth⟩, f_Place, f_At, f_Finder⟩ l now, (fun (f : TFind) (l : List TClaim) (now : Int) => []) ⟨⟨f_Thing_Id, f_Thing_Kind, f_Thing_Colour, f_Thing_Size, f_Thing_Worth⟩, f_Place, f_At, f_Finder⟩ l now) :=
  mkCon_fn (fun x y h _ => c21_inj x y h) ((⟨⟨f_Thing_Id, f_Thing_Kind, f_Thing_Colour, f_Thing_Size, f_Thing_Worth⟩, f_Place, f_At, f_Finder⟩, l, now) : TFind × (List TClaim) × Int) (by simp [nz, nz1, ML_nil, encLTClaim, encTFind, encTThing]) rfl
@[simp] theorem c21_fn1 (f_Thing_Id : Int) (f_Thing_Kind : Int) (f_Thing_Colour : Int) (f_Thing_Size : Int) (f_Thing_Worth : Int) (f_Place : Int) (f_At : Int) (f_Finder : Int) (s_l : Nat) (z_l : D) (now : Int) : c21.fn [.agg [.lit (.int .i64 f_Thing_Id), .lit (.int .i64 f_Thing_Kind), .lit (.int .i64 f_Thing_Colour), .lit (.int .i64 f_Thing_Size), .lit (.int .i64 f_Thing_Worth), .lit (.int .i64 f_Place), .lit (.int .i64 f_At), .lit (.int .i64 f_Finder)], .sl false s_l z_l [], .lit (.int .i64 now)] [] = some ((fun (f : TFind) (l : List TClaim) (now : Int) => l.length ≤ 1073741823) ⟨⟨f_Thing_Id, f_Thing_Kind, f_Thing_Colour, f_Thing_Size, f_Thing_Worth⟩, f_Place, f_At, f_Finder⟩ [] now, (fun (f : TFind) (l : List TClaim) (now : Int) => (dB (decide (mFateOf l now f ≤ 1)) : D)) ⟨⟨f_Thing_Id, f_Thing_Kind, f_Thing_Colour, f_Thing_Size, f_Thing_Worth⟩, f_Place, f_At, f_Finder⟩ [] now, (fun (f : TFind) (l : List TClaim) (now : Int) => []) ⟨⟨f_Thing_Id, f_Thing_Kind, f_Thing_Colour, f_Thing_Size, f_Thing_Worth⟩, f_Place, f_At, f_Finder⟩ [] now) :=
  mkCon_fn (fun x y h _ => c21_inj x y h) ((⟨⟨f_Thing_Id, f_Thing_Kind, f_Thing_Colour, f_Thing_Size, f_Thing_Worth⟩, f_Place, f_At, f_Finder⟩, [], now) : TFind × (List TClaim) × Int) (by simp [nz, nz1, ML_nil, encLTClaim, encTFind, encTThing]) rfl
theorem c21_pc (f : TFind) (l : List TClaim) (now : Int) (hpre : l.length ≤ 1073741823) : PCo Tryd.prog 21 [encTFind f, encLTClaim l, dI now] (Tab.of []) (dB (decide (mFateOf l now f ≤ 1))) (Tab.of []) := by
  obtain ⟨⟨f_Thing_Id, f_Thing_Kind, f_Thing_Colour, f_Thing_Size, f_Thing_Worth⟩, f_Place, f_At, f_Finder⟩ := f
  refine pco_of_run [] (E := ⟨[c18], [], []⟩) (m := false) (base := 0) (Env.ok_cons c18_ok Env.ok_nil) G_ok mix 300 6 Tryd.func21 (by kernel_rfl) rfl (by kernel_rfl) (by kernel_rfl) rfl ?_
  simp [Tryd.f21]
  have hb := fate_bd l now ⟨⟨f_Thing_Id, f_Thing_Kind, f_Thing_Colour, f_Thing_Size, f_Thing_Worth⟩, f_Place, f_At, f_Finder⟩
  refine ⟨hpre, ?_⟩
  first | rfl | omega | (rw [Bool.eq_iff_iff]; simp; done) | (rw [Bool.eq_iff_iff]; simp; omega) | (rw [Bool.eq_iff_iff]; simp; grind) | grind
theorem c21_ok : c21.ok Tryd.prog := mkCon_ok fun ⟨f, l, now⟩ hpre => c21_pc f l now hpre
end Go.Proofs.YtpnfkjbnhholfaaDoor
