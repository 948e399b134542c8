/- Contracts of the functions that the laws run. -/
import Derived.Test.YtobofamoagbacaaDoorch18f
import Derived.Test.YtobofamoagbacaaDoorch26
import Derived.Test.YtobofamoagbacaaDoorEngB
namespace Go.Proofs.YtobofamoagbacaaDoor
open Go Go.Eng
set_option linter.unusedSimpArgs false
set_option linter.unusedVariables false
set_option maxRecDepth 10000
set_option maxHeartbeats 1000000
@[simp] theorem c44_one (a1 a2 a3 a4 a5 a6 a7 a8 : Int) (l : List TClaim) (now : Int) : c44.fn [.sl false 8 yTFind [.agg [.lit (.int .i64 a1), .lit (.int .i64 a2), .lit (.int .i64 a3), .lit (.int .i64 a4), .lit (.int .i64 a5), .lit (.int .i64 a6), .lit (.int .i64 a7), .lit (.int .i64 a8)]], .sl false 5 yTClaim (ML encTClaim l), .lit (.int .i64 now)] [] = some (1 ≤ 1073741823 ∧ l.length ≤ 1073741823, .own (0, 1) 1 0 1, [((0, 1), .arr false 1 (dI 0) [dI (mFateOf l now ⟨⟨a1, a2, a3, a4, a5⟩, a6, a7, a8⟩)])]) :=
  c44_fn [⟨⟨a1, a2, a3, a4, a5⟩, a6, a7, a8⟩] l now
/-- loop.example/g03007/impl.FateOf -/
noncomputable def c39 : Con := mkCon 39 false (α := TFind × (List TClaim) × Int) (fun x => (fun (f : TFind) (l : List TClaim) (now : Int) => [encTFind f, encLTClaim l, dI now]) x.1 x.2.1 x.2.2) (fun _ => []) (fun x => (fun (f : TFind) (l : List TClaim) (now : Int) => l.length ≤ 1073741823) x.1 x.2.1 x.2.2) (fun x => (fun (f : TFind) (l : List TClaim) (now : Int) => (dI (mFateOf l now f) : D)) x.1 x.2.1 x.2.2) (fun x => (fun (f : TFind) (l : List TClaim) (now : Int) => []) x.1 x.2.1 x.2.2)
@[simp] theorem c39_f : c39.f = 39 := rfl
@[simp] theorem c39_own : c39.own = false := rfl
theorem c39_inj : ∀ u_ v_ : TFind × (List TClaim) × Int, ((fun x => (fun (f : TFind) (l : List TClaim) (now : Int) => [encTFind f, encLTClaim l, dI now]) x.1 x.2.1 x.2.2) u_).map nz = ((fun x => (fun (f : TFind) (l : List TClaim) (now : Int) => [encTFind f, encLTClaim l, dI now]) x.1 x.2.1 x.2.2) v_).map nz → u_ = v_ := by
  intro u_ v_ h
  obtain ⟨⟨⟨f_Thing_Id, f_Thing_Kind, f_Thing_Colour, f_Thing_Size, f_Thing_Worth⟩, f_Place, f_At, f_Finder⟩, l, now⟩ := u_
  obtain ⟨⟨⟨f_Thing_Id', f_Thing_Kind', f_Thing_Colour', f_Thing_Size', f_Thing_Worth'⟩, f_Place', f_At', f_Finder'⟩, l', now'⟩ := v_
  simp [nz_lit, nz1_lit, nz_agg, nz_sl, nz1_sl, encLTClaim, encTFind, encTThing] at h
  first | (simp [h]; done) | (obtain ⟨⟩ := h; simp_all; done) | simp_all
@[simp] theorem c39_fn (f_Thing_Id : Int) (f_Thing_Kind : Int) (f_Thing_Colour : Int) (f_Thing_Size : Int) (f_Thing_Worth : Int) (f_Place : Int) (f_At : Int) (f_Finder : Int) (l : List TClaim) (now : Int) : c39.fn [.agg [.lit (.int .i64 f_Thing_Id), .lit (.int .i64 f_Thing_Kind), .lit (.int .i64 f_Thing_Colour), .lit (.int .i64 f_Thing_Size), .lit (.int .i64 f_Thing_Worth), .lit (.int .i64 f_Place), .lit (.int .i64 f_At), .lit (.int .i64 f_Finder)], .sl false 5 yTClaim (ML encTClaim l), .lit (.int .i64 now)] [] = some ((fun (f : TFind) (l : List TClaim) (now : Int) => l.length ≤ 1073741823) ⟨⟨f_Thing_Id, f_Thing_Kind, f_Thing_Colour, f_Thing_Size, f_Thing_Worth⟩, f_Place, f_At, f_Finder⟩ l now, (fun (f : TFind) (l : List TClaim) (now : Int) => (dI (mFateOf l now f) : D)) ⟨⟨f_Thing_Id, f_Thing_Kind, f_Thing_Colour, f_Thing_Size, f_Thing_Worth⟩, f_Place, f_At, f_Finder⟩ l now, (fun (f : TFind) (l : List TClaim) (now : Int) => []) ⟨⟨f_Thing_Id, f_Thing_Kind, f_Thing_Colour, f_Thing_Size, f_Thing_Worth⟩, f_Place, f_At, f_Finder⟩ l now) :=
  mkCon_fn (fun x y h _ => c39_inj x y h) ((⟨⟨f_Thing_Id, f_Thing_Kind, f_Thing_Colour, f_Thing_Size, f_Thing_Worth⟩, f_Place, f_At, f_Finder⟩, l, now) : TFind × (List TClaim) × Int) (by simp [nz, nz1, ML_nil, encLTClaim, encTFind, encTThing]) rfl
@[simp] theorem c39_fn1 (f_Thing_Id : Int) (f_Thing_Kind : Int) (f_Thing_Colour : Int) (f_Thing_Size : Int) (f_Thing_Worth : Int) (f_Place : Int) (f_At : Int) (f_Finder : Int) (s_l : Nat) (z_l : D) (now : Int) : c39.fn [.agg [.lit (.int .i64 f_Thing_Id), .lit (.int .i64 f_Thing_Kind), .lit (.int .i64 f_Thing_Colour), .lit (.int .i64 f_Thing_Size), .lit (.int .i64 f_Thing_Worth), .lit (.int .i64 f_Place), .lit (.int .i64 f_At), .lit (.int .i64 f_Finder)], .sl false s_l z_l [], .lit (.int .i64 now)] [] = some ((fun (f : TFind) (l : List TClaim) (now : Int) => l.length ≤ 1073741823) ⟨⟨f_Thing_Id, f_Thing_Kind, f_Thing_Colour, f_Thing_Size, f_Thing_Worth⟩, f_Place, f_At, f_Finder⟩ [] now, (fun (f : TFind) (l : List TClaim) (now : Int) => (dI (mFateOf l now f) : D)) ⟨⟨f_Thing_Id, f_Thing_Kind, f_Thing_Colour, f_Thing_Size, f_Thing_Worth⟩, f_Place, f_At, f_Finder⟩ [] now, (fun (f : TFind) (l : List TClaim) (now : Int) => []) ⟨⟨f_Thing_Id, f_Thing_Kind, f_Thing_Colour, f_Thing_Size, f_Thing_Worth⟩, f_Place, f_At, f_Finder⟩ [] now) :=
  mkCon_fn (fun x y h _ => c39_inj x y h) ((⟨⟨f_Thing_Id, f_Thing_Kind, f_Thing_Colour, f_Thing_Size, f_Thing_Worth⟩, f_Place, f_At, f_Finder⟩, [], now) : TFind × (List TClaim) × Int) (by simp [nz, nz1, ML_nil, encLTClaim, encTFind, encTThing]) rfl
theorem c39_pc (f : TFind) (l : List TClaim) (now : Int) (hpre : l.length ≤ 1073741823) : PCo Tryd.prog 39 [encTFind f, encLTClaim l, dI now] (Tab.of []) (dI (mFateOf l now f)) (Tab.of []) := by
  obtain ⟨⟨f_Thing_Id, f_Thing_Kind, f_Thing_Colour, f_Thing_Size, f_Thing_Worth⟩, f_Place, f_At, f_Finder⟩ := f
  refine pco_of_run [] (E := ⟨[c44], []⟩) (m := false) (base := 0) (Env.ok_cons c44_ok Env.ok_nil) G_ok mix 300 6 Tryd.func39 (by kernel_rfl) rfl (by kernel_rfl) (by kernel_rfl) rfl ?_
  simp [Tryd.f39]
  exact hpre
theorem c39_ok : c39.ok Tryd.prog := mkCon_ok fun ⟨f, l, now⟩ hpre => c39_pc f l now hpre
def anyOpen (l : List TClaim) (k : Int) : Bool := l.any fun x => decide (x.Thing = k) && stateIs 0 x
theorem open_eq (l : List TClaim) (k : Int) : decide (0 < (getG (bkC l) k).countP (stateIs 0)) = anyOpen l k := by
  rw [bk_get, anyOpen, Bool.eq_iff_iff, decide_eq_true_eq, count_any, List.any_eq_true]
  constructor
  · rintro ⟨y, h1, h2, h3⟩
    refine ⟨y, h1, ?_⟩
    have h4 : y.Thing = k := of_decide_eq_true h2
    simp [h4, h3]
  · rintro ⟨y, h1, h2⟩
    simp at h2
    exact ⟨y, h1, by simp [thIs, h2.1], h2.2⟩
theorem fate_spec (l : List TClaim) (now : Int) (f : TFind) : mFateOf l now f = if mFirst l f.Thing.Id ≠ 0 then 1 else if anyOpen l f.Thing.Id = true then 0 else if mIsDue now f = false then 0 else if f.Thing.Kind = 7 ∨ f.Thing.Worth = 0 then 5 else if 5000 < f.Thing.Worth then 3 else if f.Finder ≠ 0 then 2 else 4 := by
  rw [mFateOf, keptC, open_eq]
  cases anyOpen l f.Thing.Id <;> cases mIsDue now f <;> simp
/-- loop.example/g03007/spec.FateOf -/
noncomputable def c37 : Con := mkCon 37 false (α := TFind × (List TClaim) × Int) (fun x => (fun (f : TFind) (l : List TClaim) (now : Int) => [encTFind f, encLTClaim l, dI now]) x.1 x.2.1 x.2.2) (fun _ => []) (fun x => (fun (f : TFind) (l : List TClaim) (now : Int) => l.length ≤ 1073741823) x.1 x.2.1 x.2.2) (fun x => (fun (f : TFind) (l : List TClaim) (now : Int) => (dI (mFateOf l now f) : D)) x.1 x.2.1 x.2.2) (fun x => (fun (f : TFind) (l : List TClaim) (now : Int) => []) x.1 x.2.1 x.2.2)
@[simp] theorem c37_f : c37.f = 37 := rfl
@[simp] theorem c37_own : c37.own = false := rfl
theorem c37_inj : ∀ u_ v_ : TFind × (List TClaim) × Int, ((fun x => (fun (f : TFind) (l : List TClaim) (now : Int) => [encTFind f, encLTClaim l, dI now]) x.1 x.2.1 x.2.2) u_).map nz = ((fun x => (fun (f : TFind) (l : List TClaim) (now : Int) => [encTFind f, encLTClaim l, dI now]) x.1 x.2.1 x.2.2) v_).map nz → u_ = v_ := by
  intro u_ v_ h
  obtain ⟨⟨⟨f_Thing_Id, f_Thing_Kind, f_Thing_Colour, f_Thing_Size, f_Thing_Worth⟩, f_Place, f_At, f_Finder⟩, l, now⟩ := u_
  obtain ⟨⟨⟨f_Thing_Id', f_Thing_Kind', f_Thing_Colour', f_Thing_Size', f_Thing_Worth'⟩, f_Place', f_At', f_Finder'⟩, l', now'⟩ := v_
  simp [nz_lit, nz1_lit, nz_agg, nz_sl, nz1_sl, encLTClaim, encTFind, encTThing] at h
  first | (simp [h]; done) | (obtain ⟨⟩ := h; simp_all; done) | simp_all
@[simp] theorem c37_fn (f_Thing_Id : Int) (f_Thing_Kind : Int) (f_Thing_Colour : Int) (f_Thing_Size : Int) (f_Thing_Worth : Int) (f_Place : Int) (f_At : Int) (f_Finder : Int) (l : List TClaim) (now : Int) : c37.fn [.agg [.lit (.int .i64 f_Thing_Id), .lit (.int .i64 f_Thing_Kind), .lit (.int .i64 f_Thing_Colour), .lit (.int .i64 f_Thing_Size), .lit (.int .i64 f_Thing_Worth), .lit (.int .i64 f_Place), .lit (.int .i64 f_At), .lit (.int .i64 f_Finder)], .sl false 5 yTClaim (ML encTClaim l), .lit (.int .i64 now)] [] = some ((fun (f : TFind) (l : List TClaim) (now : Int) => l.length ≤ 1073741823) ⟨⟨f_Thing_Id, f_Thing_Kind, f_Thing_Colour, f_Thing_Size, f_Thing_Worth⟩, f_Place, f_At, f_Finder⟩ l now, (fun (f : TFind) (l : List TClaim) (now : Int) => (dI (mFateOf l now f) : D)) ⟨⟨f_Thing_Id, f_Thing_Kind, f_Thing_Colour, f_Thing_Size, f_Thing_Worth⟩, f_Place, f_At, f_Finder⟩ l now, (fun (f : TFind) (l : List TClaim) (now : Int) => []) ⟨⟨f_Thing_Id, f_Thing_Kind, f_Thing_Colour, f_Thing_Size, f_Thing_Worth⟩, f_Place, f_At, f_Finder⟩ l now) :=
  mkCon_fn (fun x y h _ => c37_inj x y h) ((⟨⟨f_Thing_Id, f_Thing_Kind, f_Thing_Colour, f_Thing_Size, f_Thing_Worth⟩, f_Place, f_At, f_Finder⟩, l, now) : TFind × (List TClaim) × Int) (by simp [nz, nz1, ML_nil, encLTClaim, encTFind, encTThing]) rfl
@[simp] theorem c37_fn1 (f_Thing_Id : Int) (f_Thing_Kind : Int) (f_Thing_Colour : Int) (f_Thing_Size : Int) (f_Thing_Worth : Int) (f_Place : Int) (f_At : Int) (f_Finder : Int) (s_l : Nat) (z_l : D) (now : Int) : c37.fn [.agg [.lit (.int .i64 f_Thing_Id), .lit (.int .i64 f_Thing_Kind), .lit (.int .i64 f_Thing_Colour), .lit (.int .i64 f_Thing_Size), .lit (.int .i64 f_Thing_Worth), .lit (.int .i64 f_Place), .lit (.int .i64 f_At), .lit (.int .i64 f_Finder)], .sl false s_l z_l [], .lit (.int .i64 now)] [] = some ((fun (f : TFind) (l : List TClaim) (now : Int) => l.length ≤ 1073741823) ⟨⟨f_Thing_Id, f_Thing_Kind, f_Thing_Colour, f_Thing_Size, f_Thing_Worth⟩, f_Place, f_At, f_Finder⟩ [] now, (fun (f : TFind) (l : List TClaim) (now : Int) => (dI (mFateOf l now f) : D)) ⟨⟨f_Thing_Id, f_Thing_Kind, f_Thing_Colour, f_Thing_Size, f_Thing_Worth⟩, f_Place, f_At, f_Finder⟩ [] now, (fun (f : TFind) (l : List TClaim) (now : Int) => []) ⟨⟨f_Thing_Id, f_Thing_Kind, f_Thing_Colour, f_Thing_Size, f_Thing_Worth⟩, f_Place, f_At, f_Finder⟩ [] now) :=
  mkCon_fn (fun x y h _ => c37_inj x y h) ((⟨⟨f_Thing_Id, f_Thing_Kind, f_Thing_Colour, f_Thing_Size, f_Thing_Worth⟩, f_Place, f_At, f_Finder⟩, [], now) : TFind × (List TClaim) × Int) (by simp [nz, nz1, ML_nil, encLTClaim, encTFind, encTThing]) rfl
theorem c37_pc (f : TFind) (l : List TClaim) (now : Int) (hpre : l.length ≤ 1073741823) : PCo Tryd.prog 37 [encTFind f, encLTClaim l, dI now] (Tab.of []) (dI (mFateOf l now f)) (Tab.of []) := by
  refine pco_of_run [] (E := ⟨[c21, c74], []⟩) (m := false) (base := 0) (Env.ok_cons c21_ok (Env.ok_cons c74_ok Env.ok_nil)) G_ok mix 300 6 Tryd.func37 (by kernel_rfl) rfl (by kernel_rfl) (by kernel_rfl) rfl ?_
  rw [fate_spec]
  obtain ⟨⟨f_Thing_Id, f_Thing_Kind, f_Thing_Colour, f_Thing_Size, f_Thing_Worth⟩, f_Place, f_At, f_Finder⟩ := f
  simp only
  simp [Tryd.f37]
  refine ⟨hpre, fun h1 => ?_, fun h1 => by simp [h1]⟩
  simp only [h1]
  refine loop_inv (fun p : Nat => p ≤ l.length ∧ anyOpen l f_Thing_Id = anyOpen (l.drop p) f_Thing_Id) (fun p => [(1, encLTClaim l), (2, dI now), (3, .ptr (0, 1) 0), (7, dI p)]) (fun _ => [((0, 1), .box (encTFind ⟨⟨f_Thing_Id, f_Thing_Kind, f_Thing_Colour, f_Thing_Size, f_Thing_Worth⟩, f_Place, f_At, f_Finder⟩))]) 2 (fun p => l.length - p) 0 400 (by simp) (by simp) (by simp) ?_
  intro p ⟨hp, hi⟩
  simp
  refine ⟨fun hlt => ?_, fun hge => ?_⟩
  · have ha : anyOpen (l.drop p) f_Thing_Id = ((decide ((l[p]?.getD default).Thing = f_Thing_Id) && stateIs 0 (l[p]?.getD default)) || anyOpen (l.drop (p + 1)) f_Thing_Id) := any_at hlt
    rw [ha] at hi
    have hs0 : stateIs 0 (l[p]?.getD default) = decide ((l[p]?.getD default).State = 0) := rfl
    rw [hs0] at hi
    refine ⟨⟨hlt, fun _ => hlt⟩, fun a b c => absurd c (by rw [hi]; simp [a, b]), fun hno => ⟨by omega, Again.mk (p + 1) ⟨by omega, ?_⟩ (by simp) (by first | omega | (simp; omega))⟩⟩
    rw [hi]
    by_cases a : (l[p]?.getD default).Thing = f_Thing_Id
    · simp [a, hno a]
    · simp [a]
  · have ha : anyOpen (l.drop p) f_Thing_Id = false := any_end hge
    rw [ha] at hi
    simp only [hi]
    generalize mIsDue now _ = du
    cases du with
    | false => simp
    | true =>
      simp
      grind
theorem c37_ok : c37.ok Tryd.prog := mkCon_ok fun ⟨f, l, now⟩ hpre => c37_pc f l now hpre
/-- loop.example/g03007/spec.MustKeep -/
noncomputable def c41 : Con := mkCon 41 false (α := TFind × (List TClaim) × Int) (fun x => (fun (f : TFind) (l : List TClaim) (now : Int) => [encTFind f, encLTClaim l, dI now]) x.1 x.2.1 x.2.2) (fun _ => []) (fun x => (fun (f : TFind) (l : List TClaim) (now : Int) => l.length ≤ 1073741823) x.1 x.2.1 x.2.2) (fun x => (fun (f : TFind) (l : List TClaim) (now : Int) => (dB (decide (mFateOf l now f ≤ 1)) : D)) x.1 x.2.1 x.2.2) (fun x => (fun (f : TFind) (l : List TClaim) (now : Int) => []) x.1 x.2.1 x.2.2)
@[simp] theorem c41_f : c41.f = 41 := rfl
@[simp] theorem c41_own : c41.own = false := rfl
theorem c41_inj : ∀ u_ v_ : TFind × (List TClaim) × Int, ((fun x => (fun (f : TFind) (l : List TClaim) (now : Int) => [encTFind f, encLTClaim l, dI now]) x.1 x.2.1 x.2.2) u_).map nz = ((fun x => (fun (f : TFind) (l : List TClaim) (now : Int) => [encTFind f, encLTClaim l, dI now]) x.1 x.2.1 x.2.2) v_).map nz → u_ = v_ := by
  intro u_ v_ h
  obtain ⟨⟨⟨f_Thing_Id, f_Thing_Kind, f_Thing_Colour, f_Thing_Size, f_Thing_Worth⟩, f_Place, f_At, f_Finder⟩, l, now⟩ := u_
  obtain ⟨⟨⟨f_Thing_Id', f_Thing_Kind', f_Thing_Colour', f_Thing_Size', f_Thing_Worth'⟩, f_Place', f_At', f_Finder'⟩, l', now'⟩ := v_
  simp [nz_lit, nz1_lit, nz_agg, nz_sl, nz1_sl, encLTClaim, encTFind, encTThing] at h
  first | (simp [h]; done) | (obtain ⟨⟩ := h; simp_all; done) | simp_all
@[simp] theorem c41_fn (f_Thing_Id : Int) (f_Thing_Kind : Int) (f_Thing_Colour : Int) (f_Thing_Size : Int) (f_Thing_Worth : Int) (f_Place : Int) (f_At : Int) (f_Finder : Int) (l : List TClaim) (now : Int) : c41.fn [.agg [.lit (.int .i64 f_Thing_Id), .lit (.int .i64 f_Thing_Kind), .lit (.int .i64 f_Thing_Colour), .lit (.int .i64 f_Thing_Size), .lit (.int .i64 f_Thing_Worth), .lit (.int .i64 f_Place), .lit (.int .i64 f_At), .lit (.int .i64 f_Finder)], .sl false 5 yTClaim (ML encTClaim l), .lit (.int .i64 now)] [] = some ((fun (f : TFind) (l : List TClaim) (now : Int) => l.length ≤ 1073741823) ⟨⟨f_Thing_Id, f_Thing_Kind, f_Thing_Colour, f_Thing_Size, f_Thing_Worth⟩, f_Place, f_At, f_Finder⟩ l now, (fun (f : TFind) (l : List TClaim) (now : Int) => (dB (decide (mFateOf l now f ≤ 1)) : D)) ⟨⟨f_Thing_Id, f_Thing_Kind, f_Thing_Colour, f_Thing_Size, f_Thing_Worth⟩, f_Place, f_At, f_Finder⟩ l now, (fun (f : TFind) (l : List TClaim) (now : Int) => []) ⟨⟨f_Thing_Id, f_Thing_Kind, f_Thing_Colour, f_Thing_Size, f_Thing_Worth⟩, f_Place, f_At, f_Finder⟩ l now) :=
  mkCon_fn (fun x y h _ => c41_inj x y h) ((⟨⟨f_Thing_Id, f_Thing_Kind, f_Thing_Colour, f_Thing_Size, f_Thing_Worth⟩, f_Place, f_At, f_Finder⟩, l, now) : TFind × (List TClaim) × Int) (by simp [nz, nz1, ML_nil, encLTClaim, encTFind, encTThing]) rfl
@[simp] theorem c41_fn1 (f_Thing_Id : Int) (f_Thing_Kind : Int) (f_Thing_Colour : Int) (f_Thing_Size : Int) (f_Thing_Worth : Int) (f_Place : Int) (f_At : Int) (f_Finder : Int) (s_l : Nat) (z_l : D) (now : Int) : c41.fn [.agg [.lit (.int .i64 f_Thing_Id), .lit (.int .i64 f_Thing_Kind), .lit (.int .i64 f_Thing_Colour), .lit (.int .i64 f_Thing_Size), .lit (.int .i64 f_Thing_Worth), .lit (.int .i64 f_Place), .lit (.int .i64 f_At), .lit (.int .i64 f_Finder)], .sl false s_l z_l [], .lit (.int .i64 now)] [] = some ((fun (f : TFind) (l : List TClaim) (now : Int) => l.length ≤ 1073741823) ⟨⟨f_Thing_Id, f_Thing_Kind, f_Thing_Colour, f_Thing_Size, f_Thing_Worth⟩, f_Place, f_At, f_Finder⟩ [] now, (fun (f : TFind) (l : List TClaim) (now : Int) => (dB (decide (mFateOf l now f ≤ 1)) : D)) ⟨⟨f_Thing_Id, f_Thing_Kind, f_Thing_Colour, f_Thing_Size, f_Thing_Worth⟩, f_Place, f_At, f_Finder⟩ [] now, (fun (f : TFind) (l : List TClaim) (now : Int) => []) ⟨⟨f_Thing_Id, f_Thing_Kind, f_Thing_Colour, f_Thing_Size, f_Thing_Worth⟩, f_Place, f_At, f_Finder⟩ [] now) :=
  mkCon_fn (fun x y h _ => c41_inj x y h) ((⟨⟨f_Thing_Id, f_Thing_Kind, f_Thing_Colour, f_Thing_Size, f_Thing_Worth⟩, f_Place, f_At, f_Finder⟩, [], now) : TFind × (List TClaim) × Int) (by simp [nz, nz1, ML_nil, encLTClaim, encTFind, encTThing]) rfl
theorem c41_pc (f : TFind) (l : List TClaim) (now : Int) (hpre : l.length ≤ 1073741823) : PCo Tryd.prog 41 [encTFind f, encLTClaim l, dI now] (Tab.of []) (dB (decide (mFateOf l now f ≤ 1))) (Tab.of []) := by
  obtain ⟨⟨f_Thing_Id, f_Thing_Kind, f_Thing_Colour, f_Thing_Size, f_Thing_Worth⟩, f_Place, f_At, f_Finder⟩ := f
  refine pco_of_run [] (E := ⟨[c37], []⟩) (m := false) (base := 0) (Env.ok_cons c37_ok Env.ok_nil) G_ok mix 300 6 Tryd.func41 (by kernel_rfl) rfl (by kernel_rfl) (by kernel_rfl) rfl ?_
  simp [Tryd.f41]
  exact hpre
theorem c41_ok : c41.ok Tryd.prog := mkCon_ok fun ⟨f, l, now⟩ hpre => c41_pc f l now hpre
/-- loop.example/g03007/impl.MustKeep -/
noncomputable def c42 : Con := mkCon 42 false (α := TFind × (List TClaim) × Int) (fun x => (fun (f : TFind) (l : List TClaim) (now : Int) => [encTFind f, encLTClaim l, dI now]) x.1 x.2.1 x.2.2) (fun _ => []) (fun x => (fun (f : TFind) (l : List TClaim) (now : Int) => l.length ≤ 1073741823) x.1 x.2.1 x.2.2) (fun x => (fun (f : TFind) (l : List TClaim) (now : Int) => (dB (decide (mFateOf l now f ≤ 1)) : D)) x.1 x.2.1 x.2.2) (fun x => (fun (f : TFind) (l : List TClaim) (now : Int) => []) x.1 x.2.1 x.2.2)
@[simp] theorem c42_f : c42.f = 42 := rfl
@[simp] theorem c42_own : c42.own = false := rfl
theorem c42_inj : ∀ u_ v_ : TFind × (List TClaim) × Int, ((fun x => (fun (f : TFind) (l : List TClaim) (now : Int) => [encTFind f, encLTClaim l, dI now]) x.1 x.2.1 x.2.2) u_).map nz = ((fun x => (fun (f : TFind) (l : List TClaim) (now : Int) => [encTFind f, encLTClaim l, dI now]) x.1 x.2.1 x.2.2) v_).map nz → u_ = v_ := by
  intro u_ v_ h
  obtain ⟨⟨⟨f_Thing_Id, f_Thing_Kind, f_Thing_Colour, f_Thing_Size, f_Thing_Worth⟩, f_Place, f_At, f_Finder⟩, l, now⟩ := u_
  obtain ⟨⟨⟨f_Thing_Id', f_Thing_Kind', f_Thing_Colour', f_Thing_Size', f_Thing_Worth'⟩, f_Place', f_At', f_Finder'⟩, l', now'⟩ := v_
  simp [nz_lit, nz1_lit, nz_agg, nz_sl, nz1_sl, encLTClaim, encTFind, encTThing] at h
  first | (simp [h]; done) | (obtain ⟨⟩ := h; simp_all; done) | simp_all
@[simp] theorem c42_fn (f_Thing_Id : Int) (f_Thing_Kind : Int) (f_Thing_Colour : Int) (f_Thing_Size : Int) (f_Thing_Worth : Int) (f_Place : Int) (f_At : Int) (f_Finder : Int) (l : List TClaim) (now : Int) : c42.fn [.agg [.lit (.int .i64 f_Thing_Id), .lit (.int .i64 f_Thing_Kind), .lit (.int .i64 f_Thing_Colour), .lit (.int .i64 f_Thing_Size), .lit (.int .i64 f_Thing_Worth), .lit (.int .i64 f_Place), .lit (.int .i64 f_At), .lit (.int .i64 f_Finder)], .sl false 5 yTClaim (ML encTClaim l), .lit (.int .i64 now)] [] = some ((fun (f : TFind) (l : List TClaim) (now : Int) => l.length ≤ 1073741823) ⟨⟨f_Thing_Id, f_Thing_Kind, f_Thing_Colour, f_Thing_Size, f_Thing_Worth⟩, f_Place, f_At, f_Finder⟩ l now, (fun (f : TFind) (l : List TClaim) (now : Int) => (dB (decide (mFateOf l now f ≤ 1)) : D)) ⟨⟨f_Thing_Id, f_Thing_Kind, f_Thing_Colour, f_Thing_Size, f_Thing_Worth⟩, f_Place, f_At, f_Finder⟩ l now, (fun (f : TFind) (l : List TClaim) (now : Int) => []) ⟨⟨f_Thing_Id, f_Thing_Kind, f_Thing_Colour, f_Thing_Size, f_Thing_Worth⟩, f_Place, f_At, f_Finder⟩ l now) :=
  mkCon_fn (fun x y h _ => c42_inj x y h) ((⟨⟨f_Thing_Id, f_Thing_Kind, f_Thing_Colour, f_Thing_Size, f_Thing_Worth⟩, f_Place, f_At, f_Finder⟩, l, now) : TFind × (List TClaim) × Int) (by simp [nz, nz1, ML_nil, encLTClaim, encTFind, encTThing]) rfl
@[simp] theorem c42_fn1 (f_Thing_Id : Int) (f_Thing_Kind : Int) (f_Thing_Colour : Int) (f_Thing_Size : Int) (f_Thing_Worth : Int) (f_Place : Int) (f_At : Int) (f_Finder : Int) (s_l : Nat) (z_l : D) (now : Int) : c42.fn [.agg [.lit (.int .i64 f_Thing_Id), .lit (.int .i64 f_Thing_Kind), .lit (.int .i64 f_Thing_Colour), .lit (.int .i64 f_Thing_Size), .lit (.int .i64 f_Thing_Worth), .lit (.int .i64 f_Place), .lit (.int .i64 f_At), .lit (.int .i64 f_Finder)], .sl false s_l z_l [], .lit (.int .i64 now)] [] = some ((fun (f : TFind) (l : List TClaim) (now : Int) => l.length ≤ 1073741823) ⟨⟨f_Thing_Id, f_Thing_Kind, f_Thing_Colour, f_Thing_Size, f_Thing_Worth⟩, f_Place, f_At, f_Finder⟩ [] now, (fun (f : TFind) (l : List TClaim) (now : Int) => (dB (decide (mFateOf l now f ≤ 1)) : D)) ⟨⟨f_Thing_Id, f_Thing_Kind, f_Thing_Colour, f_Thing_Size, f_Thing_Worth⟩, f_Place, f_At, f_Finder⟩ [] now, (fun (f : TFind) (l : List TClaim) (now : Int) => []) ⟨⟨f_Thing_Id, f_Thing_Kind, f_Thing_Colour, f_Thing_Size, f_Thing_Worth⟩, f_Place, f_At, f_Finder⟩ [] now) :=
  mkCon_fn (fun x y h _ => c42_inj x y h) ((⟨⟨f_Thing_Id, f_Thing_Kind, f_Thing_Colour, f_Thing_Size, f_Thing_Worth⟩, f_Place, f_At, f_Finder⟩, [], now) : TFind × (List TClaim) × Int) (by simp [nz, nz1, ML_nil, encLTClaim, encTFind, encTThing]) rfl
theorem c42_pc (f : TFind) (l : List TClaim) (now : Int) (hpre : l.length ≤ 1073741823) : PCo Tryd.prog 42 [encTFind f, encLTClaim l, dI now] (Tab.of []) (dB (decide (mFateOf l now f ≤ 1))) (Tab.of []) := by
  obtain ⟨⟨f_Thing_Id, f_Thing_Kind, f_Thing_Colour, f_Thing_Size, f_Thing_Worth⟩, f_Place, f_At, f_Finder⟩ := f
  refine pco_of_run [] (E := ⟨[c39], []⟩) (m := false) (base := 0) (Env.ok_cons c39_ok Env.ok_nil) G_ok mix 300 6 Tryd.func42 (by kernel_rfl) rfl (by kernel_rfl) (by kernel_rfl) rfl ?_
  simp [Tryd.f42]
  have hb := fate_bd l now ⟨⟨f_Thing_Id, f_Thing_Kind, f_Thing_Colour, f_Thing_Size, f_Thing_Worth⟩, f_Place, f_At, f_Finder⟩
  refine ⟨hpre, ?_⟩
  first | rfl | omega | (rw [Bool.eq_iff_iff]; simp; done) | (rw [Bool.eq_iff_iff]; simp; omega) | (rw [Bool.eq_iff_iff]; simp; grind) | grind
theorem c42_ok : c42.ok Tryd.prog := mkCon_ok fun ⟨f, l, now⟩ hpre => c42_pc f l now hpre
/-- loop.example/g03007/spec.FatesOf -/
noncomputable def c43 : Con := mkCon 43 false (α := (List TFind) × (List TClaim) × Int) (fun x => (fun (f : List TFind) (l : List TClaim) (now : Int) => [encLTFind f, encLTClaim l, dI now]) x.1 x.2.1 x.2.2) (fun _ => []) (fun x => (fun (f : List TFind) (l : List TClaim) (now : Int) => f.length ≤ 1073741823 ∧ l.length ≤ 1073741823) x.1 x.2.1 x.2.2) (fun x => (fun (f : List TFind) (l : List TClaim) (now : Int) => (.own (0, 1) 1 0 (mFates f l now).length : D)) x.1 x.2.1 x.2.2) (fun x => (fun (f : List TFind) (l : List TClaim) (now : Int) => [((0, 1), .arr false 1 (dI 0) (ML dI (mFates f l now)))]) x.1 x.2.1 x.2.2)
@[simp] theorem c43_f : c43.f = 43 := rfl
@[simp] theorem c43_own : c43.own = false := rfl
theorem c43_inj : ∀ u_ v_ : (List TFind) × (List TClaim) × Int, ((fun x => (fun (f : List TFind) (l : List TClaim) (now : Int) => [encLTFind f, encLTClaim l, dI now]) x.1 x.2.1 x.2.2) u_).map nz = ((fun x => (fun (f : List TFind) (l : List TClaim) (now : Int) => [encLTFind f, encLTClaim l, dI now]) x.1 x.2.1 x.2.2) v_).map nz → u_ = v_ := by
  intro u_ v_ h
  obtain ⟨f, l, now⟩ := u_
  obtain ⟨f', l', now'⟩ := v_
  simp [nz_lit, nz1_lit, nz_agg, nz_sl, nz1_sl, encLTClaim, encLTFind] at h
  first | (simp [h]; done) | (obtain ⟨⟩ := h; simp_all; done) | simp_all
@[simp] theorem c43_fn (f : List TFind) (l : List TClaim) (now : Int) : c43.fn [.sl false 8 yTFind (ML encTFind f), .sl false 5 yTClaim (ML encTClaim l), .lit (.int .i64 now)] [] = some ((fun (f : List TFind) (l : List TClaim) (now : Int) => f.length ≤ 1073741823 ∧ l.length ≤ 1073741823) f l now, (fun (f : List TFind) (l : List TClaim) (now : Int) => (.own (0, 1) 1 0 (mFates f l now).length : D)) f l now, (fun (f : List TFind) (l : List TClaim) (now : Int) => [((0, 1), .arr false 1 (dI 0) (ML dI (mFates f l now)))]) f l now) :=
  mkCon_fn (fun x y h _ => c43_inj x y h) ((f, l, now) : (List TFind) × (List TClaim) × Int) (by simp [nz, nz1, ML_nil, encLTClaim, encLTFind]) rfl
@[simp] theorem c43_fn1 (s_f : Nat) (z_f : D) (l : List TClaim) (now : Int) : c43.fn [.sl false s_f z_f [], .sl false 5 yTClaim (ML encTClaim l), .lit (.int .i64 now)] [] = some ((fun (f : List TFind) (l : List TClaim) (now : Int) => f.length ≤ 1073741823 ∧ l.length ≤ 1073741823) [] l now, (fun (f : List TFind) (l : List TClaim) (now : Int) => (.own (0, 1) 1 0 (mFates f l now).length : D)) [] l now, (fun (f : List TFind) (l : List TClaim) (now : Int) => [((0, 1), .arr false 1 (dI 0) (ML dI (mFates f l now)))]) [] l now) :=
  mkCon_fn (fun x y h _ => c43_inj x y h) (([], l, now) : (List TFind) × (List TClaim) × Int) (by simp [nz, nz1, ML_nil, encLTClaim, encLTFind]) rfl
@[simp] theorem c43_fn2 (f : List TFind) (s_l : Nat) (z_l : D) (now : Int) : c43.fn [.sl false 8 yTFind (ML encTFind f), .sl false s_l z_l [], .lit (.int .i64 now)] [] = some ((fun (f : List TFind) (l : List TClaim) (now : Int) => f.length ≤ 1073741823 ∧ l.length ≤ 1073741823) f [] now, (fun (f : List TFind) (l : List TClaim) (now : Int) => (.own (0, 1) 1 0 (mFates f l now).length : D)) f [] now, (fun (f : List TFind) (l : List TClaim) (now : Int) => [((0, 1), .arr false 1 (dI 0) (ML dI (mFates f l now)))]) f [] now) :=
  mkCon_fn (fun x y h _ => c43_inj x y h) ((f, [], now) : (List TFind) × (List TClaim) × Int) (by simp [nz, nz1, ML_nil, encLTClaim, encLTFind]) rfl
@[simp] theorem c43_fn3 (s_f : Nat) (z_f : D) (s_l : Nat) (z_l : D) (now : Int) : c43.fn [.sl false s_f z_f [], .sl false s_l z_l [], .lit (.int .i64 now)] [] = some ((fun (f : List TFind) (l : List TClaim) (now : Int) => f.length ≤ 1073741823 ∧ l.length ≤ 1073741823) [] [] now, (fun (f : List TFind) (l : List TClaim) (now : Int) => (.own (0, 1) 1 0 (mFates f l now).length : D)) [] [] now, (fun (f : List TFind) (l : List TClaim) (now : Int) => [((0, 1), .arr false 1 (dI 0) (ML dI (mFates f l now)))]) [] [] now) :=
  mkCon_fn (fun x y h _ => c43_inj x y h) (([], [], now) : (List TFind) × (List TClaim) × Int) (by simp [nz, nz1, ML_nil, encLTClaim, encLTFind]) rfl
theorem c43_pc (f : List TFind) (l : List TClaim) (now : Int) (hpre : f.length ≤ 1073741823 ∧ l.length ≤ 1073741823) : PCo Tryd.prog 43 [encLTFind f, encLTClaim l, dI now] (Tab.of []) (.own (0, 1) 1 0 (mFates f l now).length) (Tab.of [((0, 1), .arr false 1 (dI 0) (ML dI (mFates f l now)))]) := by
  refine pco_of_run [] (E := ⟨[c37], []⟩) (m := false) (base := 0) (Env.ok_cons c37_ok Env.ok_nil) G_ok mix 300 6 Tryd.func43 (by kernel_rfl) rfl (by kernel_rfl) (by kernel_rfl) rfl ?_
  simp [Tryd.f43]
  obtain ⟨pre1, pre2⟩ := hpre
  refine loop_inv (fun p : Nat => p ≤ f.length) (fun p => [(0, encLTFind f), (1, encLTClaim l), (2, dI now), (7, .own (0, 1) 1 0 p), (8, dI p)]) (fun p => [((0, 1), .arr false 1 (dI 0) (ML dI ((f.take p).map (mFateOf l now))))]) 2 (fun p => f.length - p) 0 400 (by simp) (by simp) (by simp) ?_
  intro p hp
  simp
  refine ⟨fun hlt => ?_, fun hge => ?_⟩
  · have hs : (f.take (p + 1)).map (mFateOf l now) = (f.take p).map (mFateOf l now) ++ [mFateOf l now (f[p]?.getD default)] := by rw [take_at (d := default) hlt]; simp
    have hm : min p f.length = p := by omega
    have hs2 : List.take p (List.map (mFateOf l now) f) ++ [mFateOf l now (f[p]?.getD default)] = List.take (p + 1) (List.map (mFateOf l now) f) := by rw [← List.map_take, ← List.map_take, hs]
    repeat' (first | omega | refine And.intro ?_ ?_ | intro _)
    exact Again.mk (p + 1) (by omega) (by simp [hs2, hm]) (by first | omega | (simp; omega))
  · have : p = f.length := by omega
    subst this; simp [← List.map_take, mFates]
theorem c43_ok : c43.ok Tryd.prog := mkCon_ok fun ⟨f, l, now⟩ hpre => c43_pc f l now hpre
/-- loop.example/g03007/laws.FnExactFateOf -/
theorem law9 (f : TFind) (wf : wfTFind f) (l : List TClaim) (wl : wfLTClaim l) (now : Int) (wnow : inR .i64 now) : PCo Tryd.prog 9 [encTFind f, encLTClaim l, dI now] (Tab.of []) (dB true) (Tab.of []) := by
  obtain ⟨⟨f_Thing_Id, f_Thing_Kind, f_Thing_Colour, f_Thing_Size, f_Thing_Worth⟩, f_Place, f_At, f_Finder⟩ := f
  refine pco_of_run [] (E := ⟨[c19, c36, c37, c38, c39, c40], []⟩) (m := false) (base := 0) (Env.ok_cons c19_ok (Env.ok_cons c36_ok (Env.ok_cons c37_ok (Env.ok_cons c38_ok (Env.ok_cons c39_ok (Env.ok_cons c40_ok Env.ok_nil)))))) G_ok mix 400 6 Tryd.func9 (by kernel_rfl) rfl (by kernel_rfl) (by kernel_rfl) rfl ?_
  simp (config := {maxSteps := 3000000}) [Tryd.f9]
  have h_l : l.length ≤ maxLen := wl.1
  repeat' (first | omega | assumption | refine And.intro ?_ ?_ | intro _)
  all_goals first | omega | grind | (split at * <;> omega)
theorem law9_pc (D0 : D) (h0 : Sh G 9 27 D0) (D1 : D) (h1 : Sh G 9 48 D1) (D2 : D) (h2 : Sh G 9 3 D2) : PC Tryd.prog 9 [D0, D1, D2] (dB true) [] := by
  obtain ⟨f, rfl, wf⟩ := sh27 (n := 6) h0
  obtain ⟨l, rfl, wl⟩ := sh48 (n := 6) h1
  obtain ⟨now, rfl, wnow⟩ := sh3 (n := 8) h2
  exact law9 f wf l wl now wnow
/-- loop.example/g03007/laws.FnExactMustKeep -/
theorem law10 (f : TFind) (wf : wfTFind f) (l : List TClaim) (wl : wfLTClaim l) (now : Int) (wnow : inR .i64 now) : PCo Tryd.prog 10 [encTFind f, encLTClaim l, dI now] (Tab.of []) (dB true) (Tab.of []) := by
  obtain ⟨⟨f_Thing_Id, f_Thing_Kind, f_Thing_Colour, f_Thing_Size, f_Thing_Worth⟩, f_Place, f_At, f_Finder⟩ := f
  refine pco_of_run [] (E := ⟨[c19, c36, c38, c40, c41, c42], []⟩) (m := false) (base := 0) (Env.ok_cons c19_ok (Env.ok_cons c36_ok (Env.ok_cons c38_ok (Env.ok_cons c40_ok (Env.ok_cons c41_ok (Env.ok_cons c42_ok Env.ok_nil)))))) G_ok mix 400 6 Tryd.func10 (by kernel_rfl) rfl (by kernel_rfl) (by kernel_rfl) rfl ?_
  simp (config := {maxSteps := 3000000}) [Tryd.f10]
  have h_l : l.length ≤ maxLen := wl.1
  repeat' (first | omega | assumption | refine And.intro ?_ ?_ | intro _)
  all_goals first | omega | grind | (split at * <;> omega)
theorem law10_pc (D0 : D) (h0 : Sh G 9 27 D0) (D1 : D) (h1 : Sh G 9 48 D1) (D2 : D) (h2 : Sh G 9 3 D2) : PC Tryd.prog 10 [D0, D1, D2] (dB true) [] := by
  obtain ⟨f, rfl, wf⟩ := sh27 (n := 6) h0
  obtain ⟨l, rfl, wl⟩ := sh48 (n := 6) h1
  obtain ⟨now, rfl, wnow⟩ := sh3 (n := 8) h2
  exact law10 f wf l wl now wnow

end Go.Proofs.YtobofamoagbacaaDoor
