/- Contracts of the functions that the laws run. -/
import Derived.Test.Ytnnieeojfdjcoaach01
import Derived.Test.YtnnieeojfdjcoaaEngB
namespace Go.Proofs.Ytnnieeojfdjcoaa
open Go Go.Eng
set_option linter.unusedSimpArgs false
set_option linter.unusedVariables false
set_option maxRecDepth 10000
set_option maxHeartbeats 1000000
/-- loop.example/g03007/impl.nearest -/
noncomputable def c169 : Con := mkCon 169 false (α := Int × Int × Int) (fun x => (fun (n : Int) (low : Int) (high : Int) => [dI n, dI low, dI high]) x.1 x.2.1 x.2.2) (fun _ => []) (fun x => (fun (n : Int) (low : Int) (high : Int) => True) x.1 x.2.1 x.2.2) (fun x => (fun (n : Int) (low : Int) (high : Int) => (dI (min (max n low) high) : D)) x.1 x.2.1 x.2.2) (fun x => (fun (n : Int) (low : Int) (high : Int) => []) x.1 x.2.1 x.2.2)
@[simp] theorem c169_f : c169.f = 169 := rfl
@[simp] theorem c169_own : c169.own = false := rfl
theorem c169_inj : ∀ u_ v_ : Int × Int × Int, ((fun x => (fun (n : Int) (low : Int) (high : Int) => [dI n, dI low, dI high]) x.1 x.2.1 x.2.2) u_).map nz = ((fun x => (fun (n : Int) (low : Int) (high : Int) => [dI n, dI low, dI high]) x.1 x.2.1 x.2.2) v_).map nz → u_ = v_ := by
  intro u_ v_ h
  obtain ⟨n, low, high⟩ := u_
  obtain ⟨n', low', high'⟩ := v_
  simp [nz_lit, nz1_lit, nz_agg, nz_sl, nz1_sl] at h
  first | (simp [h]; done) | (obtain ⟨⟩ := h; simp_all; done) | simp_all
@[simp] theorem c169_fn (n : Int) (low : Int) (high : Int) : c169.fn [.lit (.int .i64 n), .lit (.int .i64 low), .lit (.int .i64 high)] [] = some ((fun (n : Int) (low : Int) (high : Int) => True) n low high, (fun (n : Int) (low : Int) (high : Int) => (dI (min (max n low) high) : D)) n low high, (fun (n : Int) (low : Int) (high : Int) => []) n low high) :=
  mkCon_fn (fun x y h _ => c169_inj x y h) ((n, low, high) : Int × Int × Int) (by simp [nz, nz1, ML_nil]) rfl
theorem c169_pc (n : Int) (low : Int) (high : Int) : PCo Try.prog 169 [dI n, dI low, dI high] (Tab.of []) (dI (min (max n low) high)) (Tab.of []) := by
  refine pco_of_run [] (E := ⟨[c132, c167], []⟩) (m := false) (base := 0) (Env.ok_cons c132_ok (Env.ok_cons c167_ok Env.ok_nil)) G_ok mix 300 6 Try.func169 (by kernel_rfl) rfl (by kernel_rfl) (by kernel_rfl) rfl ?_
  simp [Try.f169]
  all_goals first | omega | (rw [Bool.eq_iff_iff]; simp; omega) | grind
theorem c169_ok : c169.ok Try.prog := mkCon_ok fun ⟨n, low, high⟩ hpre => c169_pc n low high
/-- loop.example/g03007/laws.toThing -/
noncomputable def c96 : Con := mkCon 96 false (α := TThing) (fun x => (fun (a : TThing) => [encTThing a]) x) (fun _ => []) (fun x => (fun (a : TThing) => True) x) (fun x => (fun (a : TThing) => (encTThing a : D)) x) (fun x => (fun (a : TThing) => []) x)
@[simp] theorem c96_f : c96.f = 96 := rfl
@[simp] theorem c96_own : c96.own = false := rfl
theorem c96_inj : ∀ u_ v_ : TThing, ((fun x => (fun (a : TThing) => [encTThing a]) x) u_).map nz = ((fun x => (fun (a : TThing) => [encTThing a]) x) v_).map nz → u_ = v_ := by
  intro u_ v_ h
  obtain ⟨a_Id, a_Kind, a_Colour, a_Size, a_Worth⟩ := u_
  obtain ⟨a_Id', a_Kind', a_Colour', a_Size', a_Worth'⟩ := v_
  simp [nz_lit, nz1_lit, nz_agg, nz_sl, nz1_sl, encTThing] at h
  first | (simp [h]; done) | (obtain ⟨⟩ := h; simp_all; done) | simp_all
@[simp] theorem c96_fn (a_Id : Int) (a_Kind : Int) (a_Colour : Int) (a_Size : Int) (a_Worth : Int) : c96.fn [.agg [.lit (.int .i64 a_Id), .lit (.int .i64 a_Kind), .lit (.int .i64 a_Colour), .lit (.int .i64 a_Size), .lit (.int .i64 a_Worth)]] [] = some ((fun (a : TThing) => True) ⟨a_Id, a_Kind, a_Colour, a_Size, a_Worth⟩, (fun (a : TThing) => (encTThing a : D)) ⟨a_Id, a_Kind, a_Colour, a_Size, a_Worth⟩, (fun (a : TThing) => []) ⟨a_Id, a_Kind, a_Colour, a_Size, a_Worth⟩) :=
  mkCon_fn (fun x y h _ => c96_inj x y h) (⟨a_Id, a_Kind, a_Colour, a_Size, a_Worth⟩ : TThing) (by simp [nz, nz1, ML_nil, encTThing]) rfl
theorem c96_pc (a : TThing) : PCo Try.prog 96 [encTThing a] (Tab.of []) (encTThing a) (Tab.of []) := by
  obtain ⟨a_Id, a_Kind, a_Colour, a_Size, a_Worth⟩ := a
  refine pco_of_run [] (E := ⟨[], []⟩) (m := false) (base := 0) Env.ok_nil G_ok mix 300 6 Try.func96 (by kernel_rfl) rfl (by kernel_rfl) (by kernel_rfl) rfl ?_
  simp [Try.f96]
  all_goals first | omega | (rw [Bool.eq_iff_iff]; simp; omega) | grind
theorem c96_ok : c96.ok Try.prog := mkCon_ok fun a hpre => c96_pc a
def mIsThing (x : TThing) : Bool := mIn x.Id 1 999 && mIn x.Kind 1 8 && mIn x.Colour 0 7 && mIn x.Size 1 50 && mIn x.Worth 0 10000000
/-- loop.example/g03007/spec.IsThing -/
noncomputable def c153 : Con := mkCon 153 false (α := TThing) (fun x => (fun (x : TThing) => [encTThing x]) x) (fun _ => []) (fun x => (fun (x : TThing) => True) x) (fun x => (fun (x : TThing) => (dB (mIsThing x) : D)) x) (fun x => (fun (x : TThing) => []) x)
@[simp] theorem c153_f : c153.f = 153 := rfl
@[simp] theorem c153_own : c153.own = false := rfl
theorem c153_inj : ∀ u_ v_ : TThing, ((fun x => (fun (x : TThing) => [encTThing x]) x) u_).map nz = ((fun x => (fun (x : TThing) => [encTThing x]) x) v_).map nz → u_ = v_ := by
  intro u_ v_ h
  obtain ⟨x_Id, x_Kind, x_Colour, x_Size, x_Worth⟩ := u_
  obtain ⟨x_Id', x_Kind', x_Colour', x_Size', x_Worth'⟩ := v_
  simp [nz_lit, nz1_lit, nz_agg, nz_sl, nz1_sl, encTThing] at h
  first | (simp [h]; done) | (obtain ⟨⟩ := h; simp_all; done) | simp_all
@[simp] theorem c153_fn (x_Id : Int) (x_Kind : Int) (x_Colour : Int) (x_Size : Int) (x_Worth : Int) : c153.fn [.agg [.lit (.int .i64 x_Id), .lit (.int .i64 x_Kind), .lit (.int .i64 x_Colour), .lit (.int .i64 x_Size), .lit (.int .i64 x_Worth)]] [] = some ((fun (x : TThing) => True) ⟨x_Id, x_Kind, x_Colour, x_Size, x_Worth⟩, (fun (x : TThing) => (dB (mIsThing x) : D)) ⟨x_Id, x_Kind, x_Colour, x_Size, x_Worth⟩, (fun (x : TThing) => []) ⟨x_Id, x_Kind, x_Colour, x_Size, x_Worth⟩) :=
  mkCon_fn (fun x y h _ => c153_inj x y h) (⟨x_Id, x_Kind, x_Colour, x_Size, x_Worth⟩ : TThing) (by simp [nz, nz1, ML_nil, encTThing]) rfl
theorem c153_pc (x : TThing) : PCo Try.prog 153 [encTThing x] (Tab.of []) (dB (mIsThing x)) (Tab.of []) := by
  obtain ⟨x_Id, x_Kind, x_Colour, x_Size, x_Worth⟩ := x
  refine pco_of_run [] (E := ⟨[c118], []⟩) (m := false) (base := 0) (Env.ok_cons c118_ok Env.ok_nil) G_ok mix 300 6 Try.func153 (by kernel_rfl) rfl (by kernel_rfl) (by kernel_rfl) rfl ?_
  simp [Try.f153]
  simp [mIsThing]
theorem c153_ok : c153.ok Try.prog := mkCon_ok fun x hpre => c153_pc x
def mWithin (x : TThing) : TThing := ⟨min (max x.Id 1) 999, min (max x.Kind 1) 8, min (max x.Colour 0) 7, min (max x.Size 1) 50, min (max x.Worth 0) 10000000⟩
/-- (loop.example/g03007/impl.Thing).withinLimits -/
noncomputable def c190 : Con := mkCon 190 false (α := TThing) (fun x => (fun (x : TThing) => [encTThing x]) x) (fun _ => []) (fun x => (fun (x : TThing) => True) x) (fun x => (fun (x : TThing) => (encTThing (mWithin x) : D)) x) (fun x => (fun (x : TThing) => []) x)
@[simp] theorem c190_f : c190.f = 190 := rfl
@[simp] theorem c190_own : c190.own = false := rfl
theorem c190_inj : ∀ u_ v_ : TThing, ((fun x => (fun (x : TThing) => [encTThing x]) x) u_).map nz = ((fun x => (fun (x : TThing) => [encTThing x]) x) v_).map nz → u_ = v_ := by
  intro u_ v_ h
  obtain ⟨x_Id, x_Kind, x_Colour, x_Size, x_Worth⟩ := u_
  obtain ⟨x_Id', x_Kind', x_Colour', x_Size', x_Worth'⟩ := v_
  simp [nz_lit, nz1_lit, nz_agg, nz_sl, nz1_sl, encTThing] at h
  first | (simp [h]; done) | (obtain ⟨⟩ := h; simp_all; done) | simp_all
@[simp] theorem c190_fn (x_Id : Int) (x_Kind : Int) (x_Colour : Int) (x_Size : Int) (x_Worth : Int) : c190.fn [.agg [.lit (.int .i64 x_Id), .lit (.int .i64 x_Kind), .lit (.int .i64 x_Colour), .lit (.int .i64 x_Size), .lit (.int .i64 x_Worth)]] [] = some ((fun (x : TThing) => True) ⟨x_Id, x_Kind, x_Colour, x_Size, x_Worth⟩, (fun (x : TThing) => (encTThing (mWithin x) : D)) ⟨x_Id, x_Kind, x_Colour, x_Size, x_Worth⟩, (fun (x : TThing) => []) ⟨x_Id, x_Kind, x_Colour, x_Size, x_Worth⟩) :=
  mkCon_fn (fun x y h _ => c190_inj x y h) (⟨x_Id, x_Kind, x_Colour, x_Size, x_Worth⟩ : TThing) (by simp [nz, nz1, ML_nil, encTThing]) rfl
theorem c190_pc (x : TThing) : PCo Try.prog 190 [encTThing x] (Tab.of []) (encTThing (mWithin x)) (Tab.of []) := by
  obtain ⟨x_Id, x_Kind, x_Colour, x_Size, x_Worth⟩ := x
  refine pco_of_run [1] (E := ⟨[c169], []⟩) (m := false) (base := 0) (Env.ok_cons c169_ok Env.ok_nil) G_ok mix 300 6 Try.func190 (by kernel_rfl) rfl (by kernel_rfl) (by kernel_rfl) rfl ?_
  simp [Try.f190]
  simp [mWithin]
theorem c190_ok : c190.ok Try.prog := mkCon_ok fun x hpre => c190_pc x
/-- loop.example/g03007/impl.IsThing -/
noncomputable def c155 : Con := mkCon 155 false (α := TThing) (fun x => (fun (x : TThing) => [encTThing x]) x) (fun _ => []) (fun x => (fun (x : TThing) => True) x) (fun x => (fun (x : TThing) => (dB (mIsThing x) : D)) x) (fun x => (fun (x : TThing) => []) x)
@[simp] theorem c155_f : c155.f = 155 := rfl
@[simp] theorem c155_own : c155.own = false := rfl
theorem c155_inj : ∀ u_ v_ : TThing, ((fun x => (fun (x : TThing) => [encTThing x]) x) u_).map nz = ((fun x => (fun (x : TThing) => [encTThing x]) x) v_).map nz → u_ = v_ := by
  intro u_ v_ h
  obtain ⟨x_Id, x_Kind, x_Colour, x_Size, x_Worth⟩ := u_
  obtain ⟨x_Id', x_Kind', x_Colour', x_Size', x_Worth'⟩ := v_
  simp [nz_lit, nz1_lit, nz_agg, nz_sl, nz1_sl, encTThing] at h
  first | (simp [h]; done) | (obtain ⟨⟩ := h; simp_all; done) | simp_all
@[simp] theorem c155_fn (x_Id : Int) (x_Kind : Int) (x_Colour : Int) (x_Size : Int) (x_Worth : Int) : c155.fn [.agg [.lit (.int .i64 x_Id), .lit (.int .i64 x_Kind), .lit (.int .i64 x_Colour), .lit (.int .i64 x_Size), .lit (.int .i64 x_Worth)]] [] = some ((fun (x : TThing) => True) ⟨x_Id, x_Kind, x_Colour, x_Size, x_Worth⟩, (fun (x : TThing) => (dB (mIsThing x) : D)) ⟨x_Id, x_Kind, x_Colour, x_Size, x_Worth⟩, (fun (x : TThing) => []) ⟨x_Id, x_Kind, x_Colour, x_Size, x_Worth⟩) :=
  mkCon_fn (fun x y h _ => c155_inj x y h) (⟨x_Id, x_Kind, x_Colour, x_Size, x_Worth⟩ : TThing) (by simp [nz, nz1, ML_nil, encTThing]) rfl
theorem c155_pc (x : TThing) : PCo Try.prog 155 [encTThing x] (Tab.of []) (dB (mIsThing x)) (Tab.of []) := by
  obtain ⟨x_Id, x_Kind, x_Colour, x_Size, x_Worth⟩ := x
  refine pco_of_run [1] (E := ⟨[c190], []⟩) (m := false) (base := 0) (Env.ok_cons c190_ok Env.ok_nil) G_ok mix 300 6 Try.func155 (by kernel_rfl) rfl (by kernel_rfl) (by kernel_rfl) rfl ?_
  simp [Try.f155]
  rw [Bool.eq_iff_iff]
  simp [mIsThing, mWithin, mIn]
  omega
theorem c155_ok : c155.ok Try.prog := mkCon_ok fun x hpre => c155_pc x
/-- loop.example/g03007/laws.eqThing -/
noncomputable def c164 : Con := mkCon 164 false (α := TThing × TThing) (fun x => (fun (a : TThing) (b : TThing) => [encTThing a, encTThing b]) x.1 x.2) (fun _ => []) (fun x => (fun (a : TThing) (b : TThing) => True) x.1 x.2) (fun x => (fun (a : TThing) (b : TThing) => (dB (decide (a = b)) : D)) x.1 x.2) (fun x => (fun (a : TThing) (b : TThing) => []) x.1 x.2)
@[simp] theorem c164_f : c164.f = 164 := rfl
@[simp] theorem c164_own : c164.own = false := rfl
theorem c164_inj : ∀ u_ v_ : TThing × TThing, ((fun x => (fun (a : TThing) (b : TThing) => [encTThing a, encTThing b]) x.1 x.2) u_).map nz = ((fun x => (fun (a : TThing) (b : TThing) => [encTThing a, encTThing b]) x.1 x.2) v_).map nz → u_ = v_ := by
  intro u_ v_ h
  obtain ⟨⟨a_Id, a_Kind, a_Colour, a_Size, a_Worth⟩, ⟨b_Id, b_Kind, b_Colour, b_Size, b_Worth⟩⟩ := u_
  obtain ⟨⟨a_Id', a_Kind', a_Colour', a_Size', a_Worth'⟩, ⟨b_Id', b_Kind', b_Colour', b_Size', b_Worth'⟩⟩ := v_
  simp [nz_lit, nz1_lit, nz_agg, nz_sl, nz1_sl, encTThing] at h
  first | (simp [h]; done) | (obtain ⟨⟩ := h; simp_all; done) | simp_all
@[simp] theorem c164_fn (a_Id : Int) (a_Kind : Int) (a_Colour : Int) (a_Size : Int) (a_Worth : Int) (b_Id : Int) (b_Kind : Int) (b_Colour : Int) (b_Size : Int) (b_Worth : Int) : c164.fn [.agg [.lit (.int .i64 a_Id), .lit (.int .i64 a_Kind), .lit (.int .i64 a_Colour), .lit (.int .i64 a_Size), .lit (.int .i64 a_Worth)], .agg [.lit (.int .i64 b_Id), .lit (.int .i64 b_Kind), .lit (.int .i64 b_Colour), .lit (.int .i64 b_Size), .lit (.int .i64 b_Worth)]] [] = some ((fun (a : TThing) (b : TThing) => True) ⟨a_Id, a_Kind, a_Colour, a_Size, a_Worth⟩ ⟨b_Id, b_Kind, b_Colour, b_Size, b_Worth⟩, (fun (a : TThing) (b : TThing) => (dB (decide (a = b)) : D)) ⟨a_Id, a_Kind, a_Colour, a_Size, a_Worth⟩ ⟨b_Id, b_Kind, b_Colour, b_Size, b_Worth⟩, (fun (a : TThing) (b : TThing) => []) ⟨a_Id, a_Kind, a_Colour, a_Size, a_Worth⟩ ⟨b_Id, b_Kind, b_Colour, b_Size, b_Worth⟩) :=
  mkCon_fn (fun x y h _ => c164_inj x y h) ((⟨a_Id, a_Kind, a_Colour, a_Size, a_Worth⟩, ⟨b_Id, b_Kind, b_Colour, b_Size, b_Worth⟩) : TThing × TThing) (by simp [nz, nz1, ML_nil, encTThing]) rfl
theorem c164_pc (a : TThing) (b : TThing) : PCo Try.prog 164 [encTThing a, encTThing b] (Tab.of []) (dB (decide (a = b))) (Tab.of []) := by
  obtain ⟨a_Id, a_Kind, a_Colour, a_Size, a_Worth⟩ := a
  obtain ⟨b_Id, b_Kind, b_Colour, b_Size, b_Worth⟩ := b
  refine pco_of_run [] (E := ⟨[], []⟩) (m := false) (base := 0) Env.ok_nil G_ok mix 300 6 Try.func164 (by kernel_rfl) rfl (by kernel_rfl) (by kernel_rfl) rfl ?_
  simp [Try.f164]
  all_goals first | omega | (rw [Bool.eq_iff_iff]; simp; omega) | grind
theorem c164_ok : c164.ok Try.prog := mkCon_ok fun ⟨a, b⟩ hpre => c164_pc a b
/-- loop.example/g03007/laws.szThingS -/
noncomputable def c104 : Con := mkCon 104 false (α := (List TThing) × Int) (fun x => (fun (l : List TThing) (left : Int) => [encLTThing l, dI left]) x.1 x.2) (fun _ => []) (fun x => (fun (l : List TThing) (left : Int) => l.length ≤ maxLen ∧ 0 ≤ left ∧ left ≤ 1099511627776) x.1 x.2) (fun x => (fun (l : List TThing) (left : Int) => (dI (if left - l.length < 0 then -1 else left - l.length) : D)) x.1 x.2) (fun x => (fun (l : List TThing) (left : Int) => []) x.1 x.2)
@[simp] theorem c104_f : c104.f = 104 := rfl
@[simp] theorem c104_own : c104.own = false := rfl
theorem c104_inj : ∀ u_ v_ : (List TThing) × Int, ((fun x => (fun (l : List TThing) (left : Int) => [encLTThing l, dI left]) x.1 x.2) u_).map nz = ((fun x => (fun (l : List TThing) (left : Int) => [encLTThing l, dI left]) x.1 x.2) v_).map nz → u_ = v_ := by
  intro u_ v_ h
  obtain ⟨l, left⟩ := u_
  obtain ⟨l', left'⟩ := v_
  simp [nz_lit, nz1_lit, nz_agg, nz_sl, nz1_sl, encLTThing] at h
  first | (simp [h]; done) | (obtain ⟨⟩ := h; simp_all; done) | simp_all
@[simp] theorem c104_fn (l : List TThing) (left : Int) : c104.fn [.sl false 5 yTThing (ML encTThing l), .lit (.int .i64 left)] [] = some ((fun (l : List TThing) (left : Int) => l.length ≤ maxLen ∧ 0 ≤ left ∧ left ≤ 1099511627776) l left, (fun (l : List TThing) (left : Int) => (dI (if left - l.length < 0 then -1 else left - l.length) : D)) l left, (fun (l : List TThing) (left : Int) => []) l left) :=
  mkCon_fn (fun x y h _ => c104_inj x y h) ((l, left) : (List TThing) × Int) (by simp [nz, nz1, ML_nil, encLTThing]) rfl
@[simp] theorem c104_fn1 (s_l : Nat) (z_l : D) (left : Int) : c104.fn [.sl false s_l z_l [], .lit (.int .i64 left)] [] = some ((fun (l : List TThing) (left : Int) => l.length ≤ maxLen ∧ 0 ≤ left ∧ left ≤ 1099511627776) [] left, (fun (l : List TThing) (left : Int) => (dI (if left - l.length < 0 then -1 else left - l.length) : D)) [] left, (fun (l : List TThing) (left : Int) => []) [] left) :=
  mkCon_fn (fun x y h _ => c104_inj x y h) (([], left) : (List TThing) × Int) (by simp [nz, nz1, ML_nil, encLTThing]) rfl
theorem c104_pc (l : List TThing) (left : Int) (hpre : l.length ≤ maxLen ∧ 0 ≤ left ∧ left ≤ 1099511627776) : PCo Try.prog 104 [encLTThing l, dI left] (Tab.of []) (dI (if left - l.length < 0 then -1 else left - l.length)) (Tab.of []) := by
  refine pco_of_run [] (E := ⟨[], []⟩) (m := false) (base := 0) Env.ok_nil G_ok mix 300 6 Try.func104 (by kernel_rfl) rfl (by kernel_rfl) (by kernel_rfl) rfl ?_
  simp [Try.f104]
  simp [maxLen] at hpre
  all_goals omega
theorem c104_ok : c104.ok Try.prog := mkCon_ok fun ⟨l, left⟩ hpre => c104_pc l left hpre
def mAsc : Int → List TThing → Bool
  | _, [] => true
  | p, x :: r => mIsThing x && decide (p < x.Id) && mAsc x.Id r
def mAreThings (l : List TThing) : Bool := decide (l.length ≤ 20) && mAsc 0 l
def prevId (l : List TThing) (p : Nat) : Int := if p = 0 then 0 else (l[p - 1]?.getD default).Id
/-- loop.example/g03007/spec.AreThings -/
noncomputable def c159 : Con := mkCon 159 false (α := (List TThing)) (fun x => (fun (l : List TThing) => [encLTThing l]) x) (fun _ => []) (fun x => (fun (l : List TThing) => l.length ≤ 1099511627776) x) (fun x => (fun (l : List TThing) => (dB (mAreThings l) : D)) x) (fun x => (fun (l : List TThing) => []) x)
@[simp] theorem c159_f : c159.f = 159 := rfl
@[simp] theorem c159_own : c159.own = false := rfl
theorem c159_inj : ∀ u_ v_ : (List TThing), ((fun x => (fun (l : List TThing) => [encLTThing l]) x) u_).map nz = ((fun x => (fun (l : List TThing) => [encLTThing l]) x) v_).map nz → u_ = v_ := by
  intro u_ v_ h
  obtain l := u_
  obtain l' := v_
  simp [nz_lit, nz1_lit, nz_agg, nz_sl, nz1_sl, encLTThing] at h
  first | (simp [h]; done) | (obtain ⟨⟩ := h; simp_all; done) | simp_all
@[simp] theorem c159_fn (l : List TThing) : c159.fn [.sl false 5 yTThing (ML encTThing l)] [] = some ((fun (l : List TThing) => l.length ≤ 1099511627776) l, (fun (l : List TThing) => (dB (mAreThings l) : D)) l, (fun (l : List TThing) => []) l) :=
  mkCon_fn (fun x y h _ => c159_inj x y h) (l : (List TThing)) (by simp [nz, nz1, ML_nil, encLTThing]) rfl
@[simp] theorem c159_fn1 (s_l : Nat) (z_l : D) : c159.fn [.sl false s_l z_l []] [] = some ((fun (l : List TThing) => l.length ≤ 1099511627776) [], (fun (l : List TThing) => (dB (mAreThings l) : D)) [], (fun (l : List TThing) => []) []) :=
  mkCon_fn (fun x y h _ => c159_inj x y h) ([] : (List TThing)) (by simp [nz, nz1, ML_nil, encLTThing]) rfl
theorem c159_pc (l : List TThing) (hpre : l.length ≤ 1099511627776) : PCo Try.prog 159 [encLTThing l] (Tab.of []) (dB (mAreThings l)) (Tab.of []) := by
  refine pco_of_run [] (E := ⟨[c153], []⟩) (m := false) (base := 0) (Env.ok_cons c153_ok Env.ok_nil) G_ok mix 300 6 Try.func159 (by kernel_rfl) rfl (by kernel_rfl) (by kernel_rfl) rfl ?_
  simp [Try.f159]
  refine loop_inv (fun p : Nat => p ≤ l.length ∧ mAsc 0 l = mAsc (prevId l p) (l.drop p)) (fun p => [(0, encLTThing l), (2, dB false), (3, dI p)]) (fun _ => []) 1 (fun p => l.length - p) 0 100 (by simp) (by simp [prevId]) (by simp) ?_
  intro p ⟨hp, hi⟩
  simp
  refine ⟨fun hlt => ?_, fun hge => ?_⟩
  · have hd := drop_at (d := default) hlt
    have hs : mAsc 0 l = (mIsThing (l[p]?.getD default) && decide (prevId l p < (l[p]?.getD default).Id) && mAsc (prevId l (p + 1)) (l.drop (p + 1))) := by
      rw [hi, hd]; simp [mAsc, prevId]
    have h1 : mIsThing (l[p]?.getD default) = true → 1 ≤ (l[p]?.getD default).Id := by simp [mIsThing, mIn]; omega
    refine ⟨by omega, fun h => ?_, fun h2 h3 => ⟨by omega, ?_⟩⟩
    · rcases h with h | ⟨h, h'⟩
      · simp [mAreThings, hs, h]
      · have : ¬ (prevId l p < (l[p]?.getD default).Id) := by simp [prevId]; omega
        simp [mAreThings, hs, this]
    · refine Again.mk (p + 1) ⟨by omega, ?_⟩ (by simp) (by first | omega | (simp; omega))
      rw [hs, h2]
      have : prevId l p < (l[p]?.getD default).Id := by
        by_cases h0 : p = 0
        · have := h1 h2
          simp only [prevId, if_pos h0]; omega
        · simp only [prevId, if_neg h0]; exact h3 (by omega)
      simp [this]
  · have : p = l.length := by omega
    subst this
    simp [mAreThings, hi, mAsc]; omega
theorem c159_ok : c159.ok Try.prog := mkCon_ok fun l hpre => c159_pc l hpre
/-- loop.example/g03007/impl.AreThings -/
noncomputable def c161 : Con := mkCon 161 false (α := (List TThing)) (fun x => (fun (l : List TThing) => [encLTThing l]) x) (fun _ => []) (fun x => (fun (l : List TThing) => l.length ≤ 1099511627776) x) (fun x => (fun (l : List TThing) => (dB (mAreThings l) : D)) x) (fun x => (fun (l : List TThing) => []) x)
@[simp] theorem c161_f : c161.f = 161 := rfl
@[simp] theorem c161_own : c161.own = false := rfl
theorem c161_inj : ∀ u_ v_ : (List TThing), ((fun x => (fun (l : List TThing) => [encLTThing l]) x) u_).map nz = ((fun x => (fun (l : List TThing) => [encLTThing l]) x) v_).map nz → u_ = v_ := by
  intro u_ v_ h
  obtain l := u_
  obtain l' := v_
  simp [nz_lit, nz1_lit, nz_agg, nz_sl, nz1_sl, encLTThing] at h
  first | (simp [h]; done) | (obtain ⟨⟩ := h; simp_all; done) | simp_all
@[simp] theorem c161_fn (l : List TThing) : c161.fn [.sl false 5 yTThing (ML encTThing l)] [] = some ((fun (l : List TThing) => l.length ≤ 1099511627776) l, (fun (l : List TThing) => (dB (mAreThings l) : D)) l, (fun (l : List TThing) => []) l) :=
  mkCon_fn (fun x y h _ => c161_inj x y h) (l : (List TThing)) (by simp [nz, nz1, ML_nil, encLTThing]) rfl
@[simp] theorem c161_fn1 (s_l : Nat) (z_l : D) : c161.fn [.sl false s_l z_l []] [] = some ((fun (l : List TThing) => l.length ≤ 1099511627776) [], (fun (l : List TThing) => (dB (mAreThings l) : D)) [], (fun (l : List TThing) => []) []) :=
  mkCon_fn (fun x y h _ => c161_inj x y h) ([] : (List TThing)) (by simp [nz, nz1, ML_nil, encLTThing]) rfl
theorem c161_pc (l : List TThing) (hpre : l.length ≤ 1099511627776) : PCo Try.prog 161 [encLTThing l] (Tab.of []) (dB (mAreThings l)) (Tab.of []) := by
  refine pco_of_run [] (E := ⟨[c155], []⟩) (m := false) (base := 0) (Env.ok_cons c155_ok Env.ok_nil) G_ok mix 300 6 Try.func161 (by kernel_rfl) rfl (by kernel_rfl) (by kernel_rfl) rfl ?_
  simp [Try.f161]
  refine ⟨fun h => by simp [mAreThings]; omega, fun hle => ?_⟩
  refine loop_inv (fun p : Nat => p ≤ l.length ∧ mAsc 0 l = mAsc (prevId l p) (l.drop p)) (fun p => [(0, encLTThing l), (2, dB false), (3, dI (prevId l p)), (9, encLTThing l), (10, dI l.length), (11, dI p)]) (fun _ => []) 1 (fun p => l.length - p) 0 100 (by simp) (by simp [prevId]) (by simp [prevId]) ?_
  intro p ⟨hp, hi⟩
  simp
  refine ⟨fun hlt => ?_, fun hge => ?_⟩
  · have hd := drop_at (d := default) hlt
    have hs : mAsc 0 l = (mIsThing (l[p]?.getD default) && decide (prevId l p < (l[p]?.getD default).Id) && mAsc (prevId l (p + 1)) (l.drop (p + 1))) := by
      rw [hi, hd]; simp [mAsc, prevId]
    refine ⟨hlt, fun h => ?_, fun h2 h3 => ⟨by omega, Again.mk (p + 1) ⟨by omega, by simp [hs, h2, h3]⟩ (by simp [prevId]) (by first | omega | (simp; omega))⟩⟩
    rcases h with h | h
    · simp [mAreThings, hs, h]
    · have : ¬ (prevId l p < (l[p]?.getD default).Id) := by omega
      simp [mAreThings, hs, this]
  · have : p = l.length := by omega
    subst this
    simp [mAreThings, hi, mAsc]; omega
theorem c161_ok : c161.ok Try.prog := mkCon_ok fun l hpre => c161_pc l hpre

end Go.Proofs.Ytnnieeojfdjcoaa
