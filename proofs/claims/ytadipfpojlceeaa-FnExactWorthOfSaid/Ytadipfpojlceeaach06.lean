/- Contracts of the functions that the laws run. -/
import Derived.Test.Ytadipfpojlceeaach04
import Derived.Test.YtadipfpojlceeaaEngB
namespace Go.Proofs.Ytadipfpojlceeaa
open Go Go.Eng
set_option linter.unusedSimpArgs false
set_option linter.unusedVariables false
set_option maxRecDepth 10000
set_option maxHeartbeats 1000000
def mIsFind (f : TFind) : Bool := mIsThing f.Thing && mIn f.Place 1 30 && mIn f.At 0 100000 && mIn f.Finder 0 999
/-- loop.example/g03007/laws.toFind -/
noncomputable def c42 : Con := mkCon 42 false (α := TFind) (fun x => (fun (a : TFind) => [encTFind a]) x) (fun _ => []) (fun x => (fun (a : TFind) => True) x) (fun x => (fun (a : TFind) => (encTFind a : D)) x) (fun x => (fun (a : TFind) => []) x)
@[simp] theorem c42_f : c42.f = 42 := rfl
@[simp] theorem c42_own : c42.own = false := rfl
theorem c42_inj : ∀ u_ v_ : TFind, ((fun x => (fun (a : TFind) => [encTFind a]) x) u_).map nz = ((fun x => (fun (a : TFind) => [encTFind a]) x) v_).map nz → u_ = v_ := by
  intro u_ v_ h
  obtain ⟨⟨a_Thing_Id, a_Thing_Kind, a_Thing_Colour, a_Thing_Size, a_Thing_Worth⟩, a_Place, a_At, a_Finder⟩ := u_
  obtain ⟨⟨a_Thing_Id', a_Thing_Kind', a_Thing_Colour', a_Thing_Size', a_Thing_Worth'⟩, a_Place', a_At', a_Finder'⟩ := v_
  simp [nz_lit, nz1_lit, nz_agg, nz_sl, nz1_sl, encTFind, encTThing] at h
  first | (simp [h]; done) | (obtain ⟨⟩ := h; simp_all; done) | simp_all
@[simp] theorem c42_fn (a_Thing_Id : Int) (a_Thing_Kind : Int) (a_Thing_Colour : Int) (a_Thing_Size : Int) (a_Thing_Worth : Int) (a_Place : Int) (a_At : Int) (a_Finder : Int) : c42.fn [.agg [.lit (.int .i64 a_Thing_Id), .lit (.int .i64 a_Thing_Kind), .lit (.int .i64 a_Thing_Colour), .lit (.int .i64 a_Thing_Size), .lit (.int .i64 a_Thing_Worth), .lit (.int .i64 a_Place), .lit (.int .i64 a_At), .lit (.int .i64 a_Finder)]] [] = some ((fun (a : TFind) => True) ⟨⟨a_Thing_Id, a_Thing_Kind, a_Thing_Colour, a_Thing_Size, a_Thing_Worth⟩, a_Place, a_At, a_Finder⟩, (fun (a : TFind) => (encTFind a : D)) ⟨⟨a_Thing_Id, a_Thing_Kind, a_Thing_Colour, a_Thing_Size, a_Thing_Worth⟩, a_Place, a_At, a_Finder⟩, (fun (a : TFind) => []) ⟨⟨a_Thing_Id, a_Thing_Kind, a_Thing_Colour, a_Thing_Size, a_Thing_Worth⟩, a_Place, a_At, a_Finder⟩) :=
  mkCon_fn (fun x y h _ => c42_inj x y h) (⟨⟨a_Thing_Id, a_Thing_Kind, a_Thing_Colour, a_Thing_Size, a_Thing_Worth⟩, a_Place, a_At, a_Finder⟩ : TFind) (by simp [nz, nz1, ML_nil, encTFind, encTThing]) rfl
theorem c42_pc (a : TFind) : PCo Try.prog 42 [encTFind a] (Tab.of []) (encTFind a) (Tab.of []) := by
  obtain ⟨⟨a_Thing_Id, a_Thing_Kind, a_Thing_Colour, a_Thing_Size, a_Thing_Worth⟩, a_Place, a_At, a_Finder⟩ := a
  refine pco_of_run [] (E := ⟨[c30], []⟩) (m := false) (base := 0) (Env.ok_cons c30_ok Env.ok_nil) G_ok mix 300 6 Try.func42 (by kernel_rfl) rfl (by kernel_rfl) (by kernel_rfl) rfl ?_
  simp [Try.f42]
  all_goals first | omega | (rw [Bool.eq_iff_iff]; simp; omega) | grind
theorem c42_ok : c42.ok Try.prog := mkCon_ok fun a hpre => c42_pc a
/-- loop.example/g03007/laws.eqFind -/
noncomputable def c167 : Con := mkCon 167 false (α := TFind × TFind) (fun x => (fun (a : TFind) (b : TFind) => [encTFind a, encTFind b]) x.1 x.2) (fun _ => []) (fun x => (fun (a : TFind) (b : TFind) => True) x.1 x.2) (fun x => (fun (a : TFind) (b : TFind) => (dB (decide (a = b)) : D)) x.1 x.2) (fun x => (fun (a : TFind) (b : TFind) => []) x.1 x.2)
@[simp] theorem c167_f : c167.f = 167 := rfl
@[simp] theorem c167_own : c167.own = false := rfl
theorem c167_inj : ∀ u_ v_ : TFind × TFind, ((fun x => (fun (a : TFind) (b : TFind) => [encTFind a, encTFind b]) x.1 x.2) u_).map nz = ((fun x => (fun (a : TFind) (b : TFind) => [encTFind a, encTFind b]) x.1 x.2) v_).map nz → u_ = v_ := by
  intro u_ v_ h
  obtain ⟨⟨⟨a_Thing_Id, a_Thing_Kind, a_Thing_Colour, a_Thing_Size, a_Thing_Worth⟩, a_Place, a_At, a_Finder⟩, ⟨⟨b_Thing_Id, b_Thing_Kind, b_Thing_Colour, b_Thing_Size, b_Thing_Worth⟩, b_Place, b_At, b_Finder⟩⟩ := u_
  obtain ⟨⟨⟨a_Thing_Id', a_Thing_Kind', a_Thing_Colour', a_Thing_Size', a_Thing_Worth'⟩, a_Place', a_At', a_Finder'⟩, ⟨⟨b_Thing_Id', b_Thing_Kind', b_Thing_Colour', b_Thing_Size', b_Thing_Worth'⟩, b_Place', b_At', b_Finder'⟩⟩ := v_
  simp [nz_lit, nz1_lit, nz_agg, nz_sl, nz1_sl, encTFind, encTThing] at h
  first | (simp [h]; done) | (obtain ⟨⟩ := h; simp_all; done) | simp_all
@[simp] theorem c167_fn (a_Thing_Id : Int) (a_Thing_Kind : Int) (a_Thing_Colour : Int) (a_Thing_Size : Int) (a_Thing_Worth : Int) (a_Place : Int) (a_At : Int) (a_Finder : Int) (b_Thing_Id : Int) (b_Thing_Kind : Int) (b_Thing_Colour : Int) (b_Thing_Size : Int) (b_Thing_Worth : Int) (b_Place : Int) (b_At : Int) (b_Finder : Int) : c167.fn [.agg [.lit (.int .i64 a_Thing_Id), .lit (.int .i64 a_Thing_Kind), .lit (.int .i64 a_Thing_Colour), .lit (.int .i64 a_Thing_Size), .lit (.int .i64 a_Thing_Worth), .lit (.int .i64 a_Place), .lit (.int .i64 a_At), .lit (.int .i64 a_Finder)], .agg [.lit (.int .i64 b_Thing_Id), .lit (.int .i64 b_Thing_Kind), .lit (.int .i64 b_Thing_Colour), .lit (.int .i64 b_Thing_Size), .lit (.int .i64 b_Thing_Worth), .lit (.int .i64 b_Place), .lit (.int .i64 b_At), .lit (.int .i64 b_Finder)]] [] = some ((fun (a : TFind) (b : TFind) => True) ⟨⟨a_Thing_Id, a_Thing_Kind, a_Thing_Colour, a_Thing_Size, a_Thing_Worth⟩, a_Place, a_At, a_Finder⟩ ⟨⟨b_Thing_Id, b_Thing_Kind, b_Thing_Colour, b_Thing_Size, b_Thing_Worth⟩, b_Place, b_At, b_Finder⟩, (fun (a : TFind) (b : TFind) => (dB (decide (a = b)) : D)) ⟨⟨a_Thing_Id, a_Thing_Kind, a_Thing_Colour, a_Thing_Size, a_Thing_Worth⟩, a_Place, a_At, a_Finder⟩ ⟨⟨b_Thing_Id, b_Thing_Kind, b_Thing_Colour, b_Thing_Size, b_Thing_Worth⟩, b_Place, b_At, b_Finder⟩, (fun (a : TFind) (b : TFind) => []) ⟨⟨a_Thing_Id, a_Thing_Kind, a_Thing_Colour, a_Thing_Size, a_Thing_Worth⟩, a_Place, a_At, a_Finder⟩ ⟨⟨b_Thing_Id, b_Thing_Kind, b_Thing_Colour, b_Thing_Size, b_Thing_Worth⟩, b_Place, b_At, b_Finder⟩) :=
  mkCon_fn (fun x y h _ => c167_inj x y h) ((⟨⟨a_Thing_Id, a_Thing_Kind, a_Thing_Colour, a_Thing_Size, a_Thing_Worth⟩, a_Place, a_At, a_Finder⟩, ⟨⟨b_Thing_Id, b_Thing_Kind, b_Thing_Colour, b_Thing_Size, b_Thing_Worth⟩, b_Place, b_At, b_Finder⟩) : TFind × TFind) (by simp [nz, nz1, ML_nil, encTFind, encTThing]) rfl
theorem c167_pc (a : TFind) (b : TFind) : PCo Try.prog 167 [encTFind a, encTFind b] (Tab.of []) (dB (decide (a = b))) (Tab.of []) := by
  obtain ⟨⟨a_Thing_Id, a_Thing_Kind, a_Thing_Colour, a_Thing_Size, a_Thing_Worth⟩, a_Place, a_At, a_Finder⟩ := a
  obtain ⟨⟨b_Thing_Id, b_Thing_Kind, b_Thing_Colour, b_Thing_Size, b_Thing_Worth⟩, b_Place, b_At, b_Finder⟩ := b
  refine pco_of_run [] (E := ⟨[c205], []⟩) (m := false) (base := 0) (Env.ok_cons c205_ok Env.ok_nil) G_ok mix 300 6 Try.func167 (by kernel_rfl) rfl (by kernel_rfl) (by kernel_rfl) rfl ?_
  simp [Try.f167]
  all_goals first | omega | (rw [Bool.eq_iff_iff]; simp; omega) | grind
theorem c167_ok : c167.ok Try.prog := mkCon_ok fun ⟨a, b⟩ hpre => c167_pc a b
/-- loop.example/g03007/spec.IsFind -/
noncomputable def c126 : Con := mkCon 126 false (α := TFind) (fun x => (fun (f : TFind) => [encTFind f]) x) (fun _ => []) (fun x => (fun (f : TFind) => True) x) (fun x => (fun (f : TFind) => (dB (mIsFind f) : D)) x) (fun x => (fun (f : TFind) => []) x)
@[simp] theorem c126_f : c126.f = 126 := rfl
@[simp] theorem c126_own : c126.own = false := rfl
theorem c126_inj : ∀ u_ v_ : TFind, ((fun x => (fun (f : TFind) => [encTFind f]) x) u_).map nz = ((fun x => (fun (f : TFind) => [encTFind f]) x) v_).map nz → u_ = v_ := by
  intro u_ v_ h
  obtain ⟨⟨f_Thing_Id, f_Thing_Kind, f_Thing_Colour, f_Thing_Size, f_Thing_Worth⟩, f_Place, f_At, f_Finder⟩ := u_
  obtain ⟨⟨f_Thing_Id', f_Thing_Kind', f_Thing_Colour', f_Thing_Size', f_Thing_Worth'⟩, f_Place', f_At', f_Finder'⟩ := v_
  simp [nz_lit, nz1_lit, nz_agg, nz_sl, nz1_sl, encTFind, encTThing] at h
  first | (simp [h]; done) | (obtain ⟨⟩ := h; simp_all; done) | simp_all
@[simp] theorem c126_fn (f_Thing_Id : Int) (f_Thing_Kind : Int) (f_Thing_Colour : Int) (f_Thing_Size : Int) (f_Thing_Worth : Int) (f_Place : Int) (f_At : Int) (f_Finder : Int) : c126.fn [.agg [.lit (.int .i64 f_Thing_Id), .lit (.int .i64 f_Thing_Kind), .lit (.int .i64 f_Thing_Colour), .lit (.int .i64 f_Thing_Size), .lit (.int .i64 f_Thing_Worth), .lit (.int .i64 f_Place), .lit (.int .i64 f_At), .lit (.int .i64 f_Finder)]] [] = some ((fun (f : TFind) => True) ⟨⟨f_Thing_Id, f_Thing_Kind, f_Thing_Colour, f_Thing_Size, f_Thing_Worth⟩, f_Place, f_At, f_Finder⟩, (fun (f : TFind) => (dB (mIsFind f) : D)) ⟨⟨f_Thing_Id, f_Thing_Kind, f_Thing_Colour, f_Thing_Size, f_Thing_Worth⟩, f_Place, f_At, f_Finder⟩, (fun (f : TFind) => []) ⟨⟨f_Thing_Id, f_Thing_Kind, f_Thing_Colour, f_Thing_Size, f_Thing_Worth⟩, f_Place, f_At, f_Finder⟩) :=
  mkCon_fn (fun x y h _ => c126_inj x y h) (⟨⟨f_Thing_Id, f_Thing_Kind, f_Thing_Colour, f_Thing_Size, f_Thing_Worth⟩, f_Place, f_At, f_Finder⟩ : TFind) (by simp [nz, nz1, ML_nil, encTFind, encTThing]) rfl
theorem c126_pc (f : TFind) : PCo Try.prog 126 [encTFind f] (Tab.of []) (dB (mIsFind f)) (Tab.of []) := by
  obtain ⟨⟨f_Thing_Id, f_Thing_Kind, f_Thing_Colour, f_Thing_Size, f_Thing_Worth⟩, f_Place, f_At, f_Finder⟩ := f
  refine pco_of_run [] (E := ⟨[c121, c188], []⟩) (m := false) (base := 0) (Env.ok_cons c121_ok (Env.ok_cons c188_ok Env.ok_nil)) G_ok mix 300 6 Try.func126 (by kernel_rfl) rfl (by kernel_rfl) (by kernel_rfl) rfl ?_
  simp [Try.f126]
  simp [mIsFind]
theorem c126_ok : c126.ok Try.prog := mkCon_ok fun f hpre => c126_pc f
/-- loop.example/g03007/impl.findChecks$1 -/
noncomputable def c215 : Con := mkCon 215 false (α := TFind) (fun x => (fun (f : TFind) => [encTFind f]) x) (fun _ => []) (fun x => (fun (f : TFind) => True) x) (fun x => (fun (f : TFind) => (dB (mIsThing f.Thing) : D)) x) (fun x => (fun (f : TFind) => []) x)
@[simp] theorem c215_f : c215.f = 215 := rfl
@[simp] theorem c215_own : c215.own = false := rfl
theorem c215_inj : ∀ u_ v_ : TFind, ((fun x => (fun (f : TFind) => [encTFind f]) x) u_).map nz = ((fun x => (fun (f : TFind) => [encTFind f]) x) v_).map nz → u_ = v_ := by
  intro u_ v_ h
  obtain ⟨⟨f_Thing_Id, f_Thing_Kind, f_Thing_Colour, f_Thing_Size, f_Thing_Worth⟩, f_Place, f_At, f_Finder⟩ := u_
  obtain ⟨⟨f_Thing_Id', f_Thing_Kind', f_Thing_Colour', f_Thing_Size', f_Thing_Worth'⟩, f_Place', f_At', f_Finder'⟩ := v_
  simp [nz_lit, nz1_lit, nz_agg, nz_sl, nz1_sl, encTFind, encTThing] at h
  first | (simp [h]; done) | (obtain ⟨⟩ := h; simp_all; done) | simp_all
@[simp] theorem c215_fn (f_Thing_Id : Int) (f_Thing_Kind : Int) (f_Thing_Colour : Int) (f_Thing_Size : Int) (f_Thing_Worth : Int) (f_Place : Int) (f_At : Int) (f_Finder : Int) : c215.fn [.agg [.lit (.int .i64 f_Thing_Id), .lit (.int .i64 f_Thing_Kind), .lit (.int .i64 f_Thing_Colour), .lit (.int .i64 f_Thing_Size), .lit (.int .i64 f_Thing_Worth), .lit (.int .i64 f_Place), .lit (.int .i64 f_At), .lit (.int .i64 f_Finder)]] [] = some ((fun (f : TFind) => True) ⟨⟨f_Thing_Id, f_Thing_Kind, f_Thing_Colour, f_Thing_Size, f_Thing_Worth⟩, f_Place, f_At, f_Finder⟩, (fun (f : TFind) => (dB (mIsThing f.Thing) : D)) ⟨⟨f_Thing_Id, f_Thing_Kind, f_Thing_Colour, f_Thing_Size, f_Thing_Worth⟩, f_Place, f_At, f_Finder⟩, (fun (f : TFind) => []) ⟨⟨f_Thing_Id, f_Thing_Kind, f_Thing_Colour, f_Thing_Size, f_Thing_Worth⟩, f_Place, f_At, f_Finder⟩) :=
  mkCon_fn (fun x y h _ => c215_inj x y h) (⟨⟨f_Thing_Id, f_Thing_Kind, f_Thing_Colour, f_Thing_Size, f_Thing_Worth⟩, f_Place, f_At, f_Finder⟩ : TFind) (by simp [nz, nz1, ML_nil, encTFind, encTThing]) rfl
theorem c215_pc (f : TFind) : PCo Try.prog 215 [encTFind f] (Tab.of []) (dB (mIsThing f.Thing)) (Tab.of []) := by
  obtain ⟨⟨f_Thing_Id, f_Thing_Kind, f_Thing_Colour, f_Thing_Size, f_Thing_Worth⟩, f_Place, f_At, f_Finder⟩ := f
  refine pco_of_run [] (E := ⟨[c216], []⟩) (m := false) (base := 0) (Env.ok_cons c216_ok Env.ok_nil) G_ok mix 300 6 Try.func215 (by kernel_rfl) rfl (by kernel_rfl) (by kernel_rfl) rfl ?_
  simp [Try.f215]
  all_goals first | omega | (rw [Bool.eq_iff_iff]; simp; omega) | grind
theorem c215_ok : c215.ok Try.prog := mkCon_ok fun f hpre => c215_pc f
/-- loop.example/g03007/impl.findChecks$2 -/
noncomputable def c217 : Con := mkCon 217 false (α := TFind) (fun x => (fun (f : TFind) => [encTFind f]) x) (fun _ => []) (fun x => (fun (f : TFind) => True) x) (fun x => (fun (f : TFind) => (dB (mIn f.Place 1 30) : D)) x) (fun x => (fun (f : TFind) => []) x)
@[simp] theorem c217_f : c217.f = 217 := rfl
@[simp] theorem c217_own : c217.own = false := rfl
theorem c217_inj : ∀ u_ v_ : TFind, ((fun x => (fun (f : TFind) => [encTFind f]) x) u_).map nz = ((fun x => (fun (f : TFind) => [encTFind f]) x) v_).map nz → u_ = v_ := by
  intro u_ v_ h
  obtain ⟨⟨f_Thing_Id, f_Thing_Kind, f_Thing_Colour, f_Thing_Size, f_Thing_Worth⟩, f_Place, f_At, f_Finder⟩ := u_
  obtain ⟨⟨f_Thing_Id', f_Thing_Kind', f_Thing_Colour', f_Thing_Size', f_Thing_Worth'⟩, f_Place', f_At', f_Finder'⟩ := v_
  simp [nz_lit, nz1_lit, nz_agg, nz_sl, nz1_sl, encTFind, encTThing] at h
  first | (simp [h]; done) | (obtain ⟨⟩ := h; simp_all; done) | simp_all
@[simp] theorem c217_fn (f_Thing_Id : Int) (f_Thing_Kind : Int) (f_Thing_Colour : Int) (f_Thing_Size : Int) (f_Thing_Worth : Int) (f_Place : Int) (f_At : Int) (f_Finder : Int) : c217.fn [.agg [.lit (.int .i64 f_Thing_Id), .lit (.int .i64 f_Thing_Kind), .lit (.int .i64 f_Thing_Colour), .lit (.int .i64 f_Thing_Size), .lit (.int .i64 f_Thing_Worth), .lit (.int .i64 f_Place), .lit (.int .i64 f_At), .lit (.int .i64 f_Finder)]] [] = some ((fun (f : TFind) => True) ⟨⟨f_Thing_Id, f_Thing_Kind, f_Thing_Colour, f_Thing_Size, f_Thing_Worth⟩, f_Place, f_At, f_Finder⟩, (fun (f : TFind) => (dB (mIn f.Place 1 30) : D)) ⟨⟨f_Thing_Id, f_Thing_Kind, f_Thing_Colour, f_Thing_Size, f_Thing_Worth⟩, f_Place, f_At, f_Finder⟩, (fun (f : TFind) => []) ⟨⟨f_Thing_Id, f_Thing_Kind, f_Thing_Colour, f_Thing_Size, f_Thing_Worth⟩, f_Place, f_At, f_Finder⟩) :=
  mkCon_fn (fun x y h _ => c217_inj x y h) (⟨⟨f_Thing_Id, f_Thing_Kind, f_Thing_Colour, f_Thing_Size, f_Thing_Worth⟩, f_Place, f_At, f_Finder⟩ : TFind) (by simp [nz, nz1, ML_nil, encTFind, encTThing]) rfl
theorem c217_pc (f : TFind) : PCo Try.prog 217 [encTFind f] (Tab.of []) (dB (mIn f.Place 1 30)) (Tab.of []) := by
  obtain ⟨⟨f_Thing_Id, f_Thing_Kind, f_Thing_Colour, f_Thing_Size, f_Thing_Worth⟩, f_Place, f_At, f_Finder⟩ := f
  refine pco_of_run [] (E := ⟨[c124], []⟩) (m := false) (base := 0) (Env.ok_cons c124_ok Env.ok_nil) G_ok mix 300 6 Try.func217 (by kernel_rfl) rfl (by kernel_rfl) (by kernel_rfl) rfl ?_
  simp [Try.f217]
  all_goals first | omega | (rw [Bool.eq_iff_iff]; simp; omega) | grind
theorem c217_ok : c217.ok Try.prog := mkCon_ok fun f hpre => c217_pc f
/-- loop.example/g03007/impl.findChecks$3 -/
noncomputable def c218 : Con := mkCon 218 false (α := TFind) (fun x => (fun (f : TFind) => [encTFind f]) x) (fun _ => []) (fun x => (fun (f : TFind) => True) x) (fun x => (fun (f : TFind) => (dB (mIn f.At 0 100000) : D)) x) (fun x => (fun (f : TFind) => []) x)
@[simp] theorem c218_f : c218.f = 218 := rfl
@[simp] theorem c218_own : c218.own = false := rfl
theorem c218_inj : ∀ u_ v_ : TFind, ((fun x => (fun (f : TFind) => [encTFind f]) x) u_).map nz = ((fun x => (fun (f : TFind) => [encTFind f]) x) v_).map nz → u_ = v_ := by
  intro u_ v_ h
  obtain ⟨⟨f_Thing_Id, f_Thing_Kind, f_Thing_Colour, f_Thing_Size, f_Thing_Worth⟩, f_Place, f_At, f_Finder⟩ := u_
  obtain ⟨⟨f_Thing_Id', f_Thing_Kind', f_Thing_Colour', f_Thing_Size', f_Thing_Worth'⟩, f_Place', f_At', f_Finder'⟩ := v_
  simp [nz_lit, nz1_lit, nz_agg, nz_sl, nz1_sl, encTFind, encTThing] at h
  first | (simp [h]; done) | (obtain ⟨⟩ := h; simp_all; done) | simp_all
@[simp] theorem c218_fn (f_Thing_Id : Int) (f_Thing_Kind : Int) (f_Thing_Colour : Int) (f_Thing_Size : Int) (f_Thing_Worth : Int) (f_Place : Int) (f_At : Int) (f_Finder : Int) : c218.fn [.agg [.lit (.int .i64 f_Thing_Id), .lit (.int .i64 f_Thing_Kind), .lit (.int .i64 f_Thing_Colour), .lit (.int .i64 f_Thing_Size), .lit (.int .i64 f_Thing_Worth), .lit (.int .i64 f_Place), .lit (.int .i64 f_At), .lit (.int .i64 f_Finder)]] [] = some ((fun (f : TFind) => True) ⟨⟨f_Thing_Id, f_Thing_Kind, f_Thing_Colour, f_Thing_Size, f_Thing_Worth⟩, f_Place, f_At, f_Finder⟩, (fun (f : TFind) => (dB (mIn f.At 0 100000) : D)) ⟨⟨f_Thing_Id, f_Thing_Kind, f_Thing_Colour, f_Thing_Size, f_Thing_Worth⟩, f_Place, f_At, f_Finder⟩, (fun (f : TFind) => []) ⟨⟨f_Thing_Id, f_Thing_Kind, f_Thing_Colour, f_Thing_Size, f_Thing_Worth⟩, f_Place, f_At, f_Finder⟩) :=
  mkCon_fn (fun x y h _ => c218_inj x y h) (⟨⟨f_Thing_Id, f_Thing_Kind, f_Thing_Colour, f_Thing_Size, f_Thing_Worth⟩, f_Place, f_At, f_Finder⟩ : TFind) (by simp [nz, nz1, ML_nil, encTFind, encTThing]) rfl
theorem c218_pc (f : TFind) : PCo Try.prog 218 [encTFind f] (Tab.of []) (dB (mIn f.At 0 100000)) (Tab.of []) := by
  obtain ⟨⟨f_Thing_Id, f_Thing_Kind, f_Thing_Colour, f_Thing_Size, f_Thing_Worth⟩, f_Place, f_At, f_Finder⟩ := f
  refine pco_of_run [] (E := ⟨[c124], []⟩) (m := false) (base := 0) (Env.ok_cons c124_ok Env.ok_nil) G_ok mix 300 6 Try.func218 (by kernel_rfl) rfl (by kernel_rfl) (by kernel_rfl) rfl ?_
  simp [Try.f218]
  all_goals first | omega | (rw [Bool.eq_iff_iff]; simp; omega) | grind
theorem c218_ok : c218.ok Try.prog := mkCon_ok fun f hpre => c218_pc f
/-- loop.example/g03007/impl.findChecks$4 -/
noncomputable def c219 : Con := mkCon 219 false (α := TFind) (fun x => (fun (f : TFind) => [encTFind f]) x) (fun _ => []) (fun x => (fun (f : TFind) => True) x) (fun x => (fun (f : TFind) => (dB (mIn f.Finder 0 999) : D)) x) (fun x => (fun (f : TFind) => []) x)
@[simp] theorem c219_f : c219.f = 219 := rfl
@[simp] theorem c219_own : c219.own = false := rfl
theorem c219_inj : ∀ u_ v_ : TFind, ((fun x => (fun (f : TFind) => [encTFind f]) x) u_).map nz = ((fun x => (fun (f : TFind) => [encTFind f]) x) v_).map nz → u_ = v_ := by
  intro u_ v_ h
  obtain ⟨⟨f_Thing_Id, f_Thing_Kind, f_Thing_Colour, f_Thing_Size, f_Thing_Worth⟩, f_Place, f_At, f_Finder⟩ := u_
  obtain ⟨⟨f_Thing_Id', f_Thing_Kind', f_Thing_Colour', f_Thing_Size', f_Thing_Worth'⟩, f_Place', f_At', f_Finder'⟩ := v_
  simp [nz_lit, nz1_lit, nz_agg, nz_sl, nz1_sl, encTFind, encTThing] at h
  first | (simp [h]; done) | (obtain ⟨⟩ := h; simp_all; done) | simp_all
@[simp] theorem c219_fn (f_Thing_Id : Int) (f_Thing_Kind : Int) (f_Thing_Colour : Int) (f_Thing_Size : Int) (f_Thing_Worth : Int) (f_Place : Int) (f_At : Int) (f_Finder : Int) : c219.fn [.agg [.lit (.int .i64 f_Thing_Id), .lit (.int .i64 f_Thing_Kind), .lit (.int .i64 f_Thing_Colour), .lit (.int .i64 f_Thing_Size), .lit (.int .i64 f_Thing_Worth), .lit (.int .i64 f_Place), .lit (.int .i64 f_At), .lit (.int .i64 f_Finder)]] [] = some ((fun (f : TFind) => True) ⟨⟨f_Thing_Id, f_Thing_Kind, f_Thing_Colour, f_Thing_Size, f_Thing_Worth⟩, f_Place, f_At, f_Finder⟩, (fun (f : TFind) => (dB (mIn f.Finder 0 999) : D)) ⟨⟨f_Thing_Id, f_Thing_Kind, f_Thing_Colour, f_Thing_Size, f_Thing_Worth⟩, f_Place, f_At, f_Finder⟩, (fun (f : TFind) => []) ⟨⟨f_Thing_Id, f_Thing_Kind, f_Thing_Colour, f_Thing_Size, f_Thing_Worth⟩, f_Place, f_At, f_Finder⟩) :=
  mkCon_fn (fun x y h _ => c219_inj x y h) (⟨⟨f_Thing_Id, f_Thing_Kind, f_Thing_Colour, f_Thing_Size, f_Thing_Worth⟩, f_Place, f_At, f_Finder⟩ : TFind) (by simp [nz, nz1, ML_nil, encTFind, encTThing]) rfl
theorem c219_pc (f : TFind) : PCo Try.prog 219 [encTFind f] (Tab.of []) (dB (mIn f.Finder 0 999)) (Tab.of []) := by
  obtain ⟨⟨f_Thing_Id, f_Thing_Kind, f_Thing_Colour, f_Thing_Size, f_Thing_Worth⟩, f_Place, f_At, f_Finder⟩ := f
  refine pco_of_run [] (E := ⟨[c124], []⟩) (m := false) (base := 0) (Env.ok_cons c124_ok Env.ok_nil) G_ok mix 300 6 Try.func219 (by kernel_rfl) rfl (by kernel_rfl) (by kernel_rfl) rfl ?_
  simp [Try.f219]
  all_goals first | omega | (rw [Bool.eq_iff_iff]; simp; omega) | grind
theorem c219_ok : c219.ok Try.prog := mkCon_ok fun f hpre => c219_pc f
/-- loop.example/g03007/impl.findChecks -/
noncomputable def c189 : Con := mkCon 189 false (α := Unit) (fun _ => []) (fun _ => []) (fun _ => True) (fun _ => (.agg [.fn (.func 215) [] [], .fn (.func 217) [] [], .fn (.func 218) [] [], .fn (.func 219) [] []] : D)) (fun _ => [])
@[simp] theorem c189_f : c189.f = 189 := rfl
@[simp] theorem c189_own : c189.own = false := rfl
theorem c189_inj : ∀ x y : Unit, ((fun _ => []) x).map nz = ((fun _ => []) y).map nz → x = y := fun _ _ _ => rfl
@[simp] theorem c189_fn : c189.fn [] [] = some (True, (.agg [.fn (.func 215) [] [], .fn (.func 217) [] [], .fn (.func 218) [] [], .fn (.func 219) [] []] : D), []) :=
  mkCon_fn (fun x y h _ => c189_inj x y h) (() : Unit) (by simp [nz, nz1, ML_nil]) rfl
theorem c189_pc  : PCo Try.prog 189 [] (Tab.of []) (.agg [.fn (.func 215) [] [], .fn (.func 217) [] [], .fn (.func 218) [] [], .fn (.func 219) [] []]) (Tab.of []) := by
  refine pco_of_run [] (E := ⟨[c215, c217, c218, c219], []⟩) (m := false) (base := 0) (Env.ok_cons c215_ok (Env.ok_cons c217_ok (Env.ok_cons c218_ok (Env.ok_cons c219_ok Env.ok_nil)))) G_ok mix 300 6 Try.func189 (by kernel_rfl) rfl (by kernel_rfl) (by kernel_rfl) rfl ?_
  simp [Try.f189]
  all_goals first | omega | (rw [Bool.eq_iff_iff]; simp; omega) | grind
theorem c189_ok : c189.ok Try.prog := mkCon_ok fun _ hpre => c189_pc 
/-- loop.example/g03007/impl.IsFind -/
noncomputable def c127 : Con := mkCon 127 false (α := TFind) (fun x => (fun (f : TFind) => [encTFind f]) x) (fun _ => []) (fun x => (fun (f : TFind) => True) x) (fun x => (fun (f : TFind) => (dB (mIsFind f) : D)) x) (fun x => (fun (f : TFind) => []) x)
@[simp] theorem c127_f : c127.f = 127 := rfl
@[simp] theorem c127_own : c127.own = false := rfl
theorem c127_inj : ∀ u_ v_ : TFind, ((fun x => (fun (f : TFind) => [encTFind f]) x) u_).map nz = ((fun x => (fun (f : TFind) => [encTFind f]) x) v_).map nz → u_ = v_ := by
  intro u_ v_ h
  obtain ⟨⟨f_Thing_Id, f_Thing_Kind, f_Thing_Colour, f_Thing_Size, f_Thing_Worth⟩, f_Place, f_At, f_Finder⟩ := u_
  obtain ⟨⟨f_Thing_Id', f_Thing_Kind', f_Thing_Colour', f_Thing_Size', f_Thing_Worth'⟩, f_Place', f_At', f_Finder'⟩ := v_
  simp [nz_lit, nz1_lit, nz_agg, nz_sl, nz1_sl, encTFind, encTThing] at h
  first | (simp [h]; done) | (obtain ⟨⟩ := h; simp_all; done) | simp_all
@[simp] theorem c127_fn (f_Thing_Id : Int) (f_Thing_Kind : Int) (f_Thing_Colour : Int) (f_Thing_Size : Int) (f_Thing_Worth : Int) (f_Place : Int) (f_At : Int) (f_Finder : Int) : c127.fn [.agg [.lit (.int .i64 f_Thing_Id), .lit (.int .i64 f_Thing_Kind), .lit (.int .i64 f_Thing_Colour), .lit (.int .i64 f_Thing_Size), .lit (.int .i64 f_Thing_Worth), .lit (.int .i64 f_Place), .lit (.int .i64 f_At), .lit (.int .i64 f_Finder)]] [] = some ((fun (f : TFind) => True) ⟨⟨f_Thing_Id, f_Thing_Kind, f_Thing_Colour, f_Thing_Size, f_Thing_Worth⟩, f_Place, f_At, f_Finder⟩, (fun (f : TFind) => (dB (mIsFind f) : D)) ⟨⟨f_Thing_Id, f_Thing_Kind, f_Thing_Colour, f_Thing_Size, f_Thing_Worth⟩, f_Place, f_At, f_Finder⟩, (fun (f : TFind) => []) ⟨⟨f_Thing_Id, f_Thing_Kind, f_Thing_Colour, f_Thing_Size, f_Thing_Worth⟩, f_Place, f_At, f_Finder⟩) :=
  mkCon_fn (fun x y h _ => c127_inj x y h) (⟨⟨f_Thing_Id, f_Thing_Kind, f_Thing_Colour, f_Thing_Size, f_Thing_Worth⟩, f_Place, f_At, f_Finder⟩ : TFind) (by simp [nz, nz1, ML_nil, encTFind, encTThing]) rfl
theorem c127_pc (f : TFind) : PCo Try.prog 127 [encTFind f] (Tab.of []) (dB (mIsFind f)) (Tab.of []) := by
  obtain ⟨⟨f_Thing_Id, f_Thing_Kind, f_Thing_Colour, f_Thing_Size, f_Thing_Worth⟩, f_Place, f_At, f_Finder⟩ := f
  refine pco_of_run [] (E := ⟨[c189, c215, c217, c218, c219], []⟩) (m := false) (base := 0) (Env.ok_cons c189_ok (Env.ok_cons c215_ok (Env.ok_cons c217_ok (Env.ok_cons c218_ok (Env.ok_cons c219_ok Env.ok_nil))))) G_ok mix 300 6 Try.func127 (by kernel_rfl) rfl (by kernel_rfl) (by kernel_rfl) rfl ?_
  simp [Try.f127]
  refine loop_unroll 400 ?_
  simp [mIsFind]
  grind
theorem c127_ok : c127.ok Try.prog := mkCon_ok fun f hpre => c127_pc f
@[simp] def nFind (f : TFind) : Int := f.Thing.Id
def mAreFinds (l : List TFind) : Bool := decide (l.length ≤ 20) && ascBy mIsFind nFind none l
/-- loop.example/g03007/spec.AreFinds -/
noncomputable def c168 : Con := mkCon 168 false (α := (List TFind)) (fun x => (fun (l : List TFind) => [encLTFind l]) x) (fun _ => []) (fun x => (fun (l : List TFind) => l.length ≤ 1099511627776) x) (fun x => (fun (l : List TFind) => (dB (mAreFinds l) : D)) x) (fun x => (fun (l : List TFind) => []) x)
@[simp] theorem c168_f : c168.f = 168 := rfl
@[simp] theorem c168_own : c168.own = false := rfl
theorem c168_inj : ∀ u_ v_ : (List TFind), ((fun x => (fun (l : List TFind) => [encLTFind l]) x) u_).map nz = ((fun x => (fun (l : List TFind) => [encLTFind l]) x) v_).map nz → u_ = v_ := by
  intro u_ v_ h
  obtain l := u_
  obtain l' := v_
  simp [nz_lit, nz1_lit, nz_agg, nz_sl, nz1_sl, encLTFind] at h
  first | (simp [h]; done) | (obtain ⟨⟩ := h; simp_all; done) | simp_all
@[simp] theorem c168_fn (l : List TFind) : c168.fn [.sl false 8 yTFind (ML encTFind l)] [] = some ((fun (l : List TFind) => l.length ≤ 1099511627776) l, (fun (l : List TFind) => (dB (mAreFinds l) : D)) l, (fun (l : List TFind) => []) l) :=
  mkCon_fn (fun x y h _ => c168_inj x y h) (l : (List TFind)) (by simp [nz, nz1, ML_nil, encLTFind]) rfl
@[simp] theorem c168_fn1 (s_l : Nat) (z_l : D) : c168.fn [.sl false s_l z_l []] [] = some ((fun (l : List TFind) => l.length ≤ 1099511627776) [], (fun (l : List TFind) => (dB (mAreFinds l) : D)) [], (fun (l : List TFind) => []) []) :=
  mkCon_fn (fun x y h _ => c168_inj x y h) ([] : (List TFind)) (by simp [nz, nz1, ML_nil, encLTFind]) rfl
theorem c168_pc (l : List TFind) (hpre : l.length ≤ 1099511627776) : PCo Try.prog 168 [encLTFind l] (Tab.of []) (dB (mAreFinds l)) (Tab.of []) := by
  refine pco_of_run [] (E := ⟨[c126], []⟩) (m := false) (base := 0) (Env.ok_cons c126_ok Env.ok_nil) G_ok mix 300 6 Try.func168 (by kernel_rfl) rfl (by kernel_rfl) (by kernel_rfl) rfl ?_
  simp [Try.f168]
  refine loop_inv (fun p : Nat => p ≤ l.length ∧ ascBy mIsFind nFind none l = ascBy mIsFind nFind (prevO nFind l p) (l.drop p)) (fun p => [(0, encLTFind l), (2, dB false), (3, dI p)]) (fun _ => []) 1 (fun p => l.length - p) 0 400 (by simp) (by simp) (by simp) ?_
  intro p ⟨hp, hi⟩
  simp
  refine ⟨fun hlt => ?_, fun hge => ?_⟩
  · rw [ascBy_at hlt] at hi; simp only [nFind, wantN] at hi
    refine ⟨by repeat' (first | omega | refine And.intro ?_ ?_ | intro _), fun h => ?_, fun h1 h2 => ⟨by omega, Again.mk (p + 1) ⟨by omega, ?_⟩ (by simp) (by first | omega | (simp; omega))⟩⟩
    · rw [mAreFinds, hi]; grind
    · rw [hi]; grind
  · rw [mAreFinds, hi, ascBy_end hge]; simp; omega
theorem c168_ok : c168.ok Try.prog := mkCon_ok fun l hpre => c168_pc l hpre
/-- loop.example/g03007/impl.findsInOrder -/
noncomputable def c206 : Con := mkCon 206 false (α := (List TFind)) (fun x => (fun (l : List TFind) => [encLTFind l]) x) (fun _ => []) (fun x => (fun (l : List TFind) => True) x) (fun x => (fun (l : List TFind) => (.agg [.sl false 8 yTFind (ML encTFind l), .fn (.func 223) [] []] : D)) x) (fun x => (fun (l : List TFind) => []) x)
@[simp] theorem c206_f : c206.f = 206 := rfl
@[simp] theorem c206_own : c206.own = false := rfl
theorem c206_inj : ∀ u_ v_ : (List TFind), ((fun x => (fun (l : List TFind) => [encLTFind l]) x) u_).map nz = ((fun x => (fun (l : List TFind) => [encLTFind l]) x) v_).map nz → u_ = v_ := by
  intro u_ v_ h
  obtain l := u_
  obtain l' := v_
  simp [nz_lit, nz1_lit, nz_agg, nz_sl, nz1_sl, encLTFind] at h
  first | (simp [h]; done) | (obtain ⟨⟩ := h; simp_all; done) | simp_all
@[simp] theorem c206_fn (l : List TFind) : c206.fn [.sl false 8 yTFind (ML encTFind l)] [] = some ((fun (l : List TFind) => True) l, (fun (l : List TFind) => (.agg [.sl false 8 yTFind (ML encTFind l), .fn (.func 223) [] []] : D)) l, (fun (l : List TFind) => []) l) :=
  mkCon_fn (fun x y h _ => c206_inj x y h) (l : (List TFind)) (by simp [nz, nz1, ML_nil, encLTFind]) rfl
@[simp] theorem c206_fn1 (s_l : Nat) (z_l : D) : c206.fn [.sl false s_l z_l []] [] = some ((fun (l : List TFind) => True) [], (fun (l : List TFind) => (.agg [.sl false 8 yTFind (ML encTFind l), .fn (.func 223) [] []] : D)) [], (fun (l : List TFind) => []) []) :=
  mkCon_fn (fun x y h _ => c206_inj x y h) ([] : (List TFind)) (by simp [nz, nz1, ML_nil, encLTFind]) rfl
theorem c206_pc (l : List TFind) : PCo Try.prog 206 [encLTFind l] (Tab.of []) (.agg [.sl false 8 yTFind (ML encTFind l), .fn (.func 223) [] []]) (Tab.of []) := by
  refine pco_of_run [] (E := ⟨[], []⟩) (m := false) (base := 0) Env.ok_nil G_ok mix 300 6 Try.func206 (by kernel_rfl) rfl (by kernel_rfl) (by kernel_rfl) rfl ?_
  simp [Try.f206]
  all_goals first | omega | (rw [Bool.eq_iff_iff]; simp; omega) | grind
theorem c206_ok : c206.ok Try.prog := mkCon_ok fun l hpre => c206_pc l
/-- loop.example/g03007/impl.findsInOrder$1 -/
noncomputable def c223 : Con := mkCon 223 false (α := TFind) (fun x => (fun (x : TFind) => [encTFind x]) x) (fun _ => []) (fun x => (fun (x : TFind) => True) x) (fun x => (fun (x : TFind) => (dI (nFind x) : D)) x) (fun x => (fun (x : TFind) => []) x)
@[simp] theorem c223_f : c223.f = 223 := rfl
@[simp] theorem c223_own : c223.own = false := rfl
theorem c223_inj : ∀ u_ v_ : TFind, ((fun x => (fun (x : TFind) => [encTFind x]) x) u_).map nz = ((fun x => (fun (x : TFind) => [encTFind x]) x) v_).map nz → u_ = v_ := by
  intro u_ v_ h
  obtain ⟨⟨x_Thing_Id, x_Thing_Kind, x_Thing_Colour, x_Thing_Size, x_Thing_Worth⟩, x_Place, x_At, x_Finder⟩ := u_
  obtain ⟨⟨x_Thing_Id', x_Thing_Kind', x_Thing_Colour', x_Thing_Size', x_Thing_Worth'⟩, x_Place', x_At', x_Finder'⟩ := v_
  simp [nz_lit, nz1_lit, nz_agg, nz_sl, nz1_sl, encTFind, encTThing] at h
  first | (simp [h]; done) | (obtain ⟨⟩ := h; simp_all; done) | simp_all
@[simp] theorem c223_fn (x_Thing_Id : Int) (x_Thing_Kind : Int) (x_Thing_Colour : Int) (x_Thing_Size : Int) (x_Thing_Worth : Int) (x_Place : Int) (x_At : Int) (x_Finder : Int) : c223.fn [.agg [.lit (.int .i64 x_Thing_Id), .lit (.int .i64 x_Thing_Kind), .lit (.int .i64 x_Thing_Colour), .lit (.int .i64 x_Thing_Size), .lit (.int .i64 x_Thing_Worth), .lit (.int .i64 x_Place), .lit (.int .i64 x_At), .lit (.int .i64 x_Finder)]] [] = some ((fun (x : TFind) => True) ⟨⟨x_Thing_Id, x_Thing_Kind, x_Thing_Colour, x_Thing_Size, x_Thing_Worth⟩, x_Place, x_At, x_Finder⟩, (fun (x : TFind) => (dI (nFind x) : D)) ⟨⟨x_Thing_Id, x_Thing_Kind, x_Thing_Colour, x_Thing_Size, x_Thing_Worth⟩, x_Place, x_At, x_Finder⟩, (fun (x : TFind) => []) ⟨⟨x_Thing_Id, x_Thing_Kind, x_Thing_Colour, x_Thing_Size, x_Thing_Worth⟩, x_Place, x_At, x_Finder⟩) :=
  mkCon_fn (fun x y h _ => c223_inj x y h) (⟨⟨x_Thing_Id, x_Thing_Kind, x_Thing_Colour, x_Thing_Size, x_Thing_Worth⟩, x_Place, x_At, x_Finder⟩ : TFind) (by simp [nz, nz1, ML_nil, encTFind, encTThing]) rfl
theorem c223_pc (x : TFind) : PCo Try.prog 223 [encTFind x] (Tab.of []) (dI (nFind x)) (Tab.of []) := by
  obtain ⟨⟨x_Thing_Id, x_Thing_Kind, x_Thing_Colour, x_Thing_Size, x_Thing_Worth⟩, x_Place, x_At, x_Finder⟩ := x
  refine pco_of_run [] (E := ⟨[], []⟩) (m := false) (base := 0) Env.ok_nil G_ok mix 300 6 Try.func223 (by kernel_rfl) rfl (by kernel_rfl) (by kernel_rfl) rfl ?_
  simp [Try.f223]
  all_goals first | omega | (rw [Bool.eq_iff_iff]; simp; omega) | grind
theorem c223_ok : c223.ok Try.prog := mkCon_ok fun x hpre => c223_pc x
/-- (loop.example/g03007/impl.sortedList[loop.example/g03007/impl.Find]).isValid -/
noncomputable def c207 : Con := mkCon 207 false (α := (List TFind) × Int) (fun x => (fun (l : List TFind) (lim : Int) => ([.agg [.sl false 8 yTFind (ML encTFind l), .fn (.func 223) [] []], dI lim, .fn (.func 127) [] []] : List D)) x.1 x.2) (fun x => (fun (l : List TFind) (lim : Int) => ([] : List (Nm × OO))) x.1 x.2) (fun x => (fun (l : List TFind) (lim : Int) => l.length ≤ 1099511627776) x.1 x.2) (fun x => (fun (l : List TFind) (lim : Int) => (dB (decide (l.length ≤ lim) && ascBy mIsFind nFind none l) : D)) x.1 x.2) (fun x => (fun (l : List TFind) (lim : Int) => ([] : List (Nm × OO))) x.1 x.2)
@[simp] theorem c207_f : c207.f = 207 := rfl
@[simp] theorem c207_own : c207.own = false := rfl
theorem c207_inj : ∀ u_ v_ : (List TFind) × Int, ((fun x => (fun (l : List TFind) (lim : Int) => ([.agg [.sl false 8 yTFind (ML encTFind l), .fn (.func 223) [] []], dI lim, .fn (.func 127) [] []] : List D)) x.1 x.2) u_).map nz = ((fun x => (fun (l : List TFind) (lim : Int) => ([.agg [.sl false 8 yTFind (ML encTFind l), .fn (.func 223) [] []], dI lim, .fn (.func 127) [] []] : List D)) x.1 x.2) v_).map nz → (fun x => (fun (l : List TFind) (lim : Int) => ([] : List (Nm × OO))) x.1 x.2) u_ = (fun x => (fun (l : List TFind) (lim : Int) => ([] : List (Nm × OO))) x.1 x.2) v_ → u_ = v_ := by
  intro u_ v_ h h2_
  obtain ⟨l, lim⟩ := u_
  obtain ⟨l', lim'⟩ := v_
  simp [nz_lit, nz1_lit, nz_agg, nz_sl, nz1_sl, nz_sx, nz_el, nz1_el, nz_own, nz1_own, nz_ptr, nz_fn, nz_iface] at h h2_
  first | (simp [h, h2_]; done) | simp_all | grind
@[simp] theorem c207_fn (l : List TFind) (lim : Int) : c207.fn ([.agg [.sl false 8 yTFind (ML encTFind l), .fn (.func 223) [] []], dI lim, .fn (.func 127) [] []]) ([]) = some (l.length ≤ 1099511627776, dB (decide (l.length ≤ lim) && ascBy mIsFind nFind none l), []) :=
  mkCon_fn c207_inj ((l, lim) : (List TFind) × Int) rfl rfl
theorem c207_pc (l : List TFind) (lim : Int) (hpre : l.length ≤ 1099511627776) : PCo Try.prog 207 ([.agg [.sl false 8 yTFind (ML encTFind l), .fn (.func 223) [] []], dI lim, .fn (.func 127) [] []]) (Tab.of ([])) (dB (decide (l.length ≤ lim) && ascBy mIsFind nFind none l)) (Tab.of ([])) := by
  refine pco_of_run [6] (E := ⟨[c223, c127], []⟩) (m := false) (base := 0) (Env.ok_cons c223_ok (Env.ok_cons c127_ok Env.ok_nil)) G_ok mix 300 6 Try.func207 (by kernel_rfl) rfl (by kernel_rfl) (by kernel_rfl) rfl ?_
  simp [Try.f207]
  refine ⟨fun h h2 => by omega, fun hlim => ?_⟩
  refine loop_inv (fun p : Nat => p ≤ l.length ∧ ascBy mIsFind nFind none l = ascBy mIsFind nFind (prevO nFind l p) (l.drop p)) (fun p => [(2, .fn (.func 127) [] []), (3, .ptr (0, 1) 0), (6, dB false), (15, .sl false 8 yTFind (ML encTFind l)), (16, dI l.length), (17, dI p)]) (fun _ => [((0, 1), .box (.agg [.sl false 8 yTFind (ML encTFind l), .fn (.func 223) [] []]))]) 2 (fun p => l.length - p) 0 400 (by simp) (by simp) (by simp) ?_
  intro p ⟨hp, hi⟩
  simp
  refine ⟨fun hlt => ?_, fun hge => ?_⟩
  · rw [ascBy_at hlt] at hi; simp only [nFind, wantN] at hi
    repeat' (first | omega | refine And.intro ?_ ?_ | intro _)
    all_goals first | exact Again.mk (p + 1) ⟨by omega, by rw [hi]; grind⟩ (by simp) (by first | omega | (simp; omega)) | (rw [hi]; grind)
  · rw [hi, ascBy_end hge]; simp; omega
theorem c207_ok : c207.ok Try.prog := mkCon_ok fun ⟨l, lim⟩ hpre => c207_pc l lim hpre
/-- loop.example/g03007/impl.AreFinds -/
noncomputable def c170 : Con := mkCon 170 false (α := (List TFind)) (fun x => (fun (l : List TFind) => [encLTFind l]) x) (fun _ => []) (fun x => (fun (l : List TFind) => l.length ≤ 1099511627776) x) (fun x => (fun (l : List TFind) => (dB (mAreFinds l) : D)) x) (fun x => (fun (l : List TFind) => []) x)
@[simp] theorem c170_f : c170.f = 170 := rfl
@[simp] theorem c170_own : c170.own = false := rfl
theorem c170_inj : ∀ u_ v_ : (List TFind), ((fun x => (fun (l : List TFind) => [encLTFind l]) x) u_).map nz = ((fun x => (fun (l : List TFind) => [encLTFind l]) x) v_).map nz → u_ = v_ := by
  intro u_ v_ h
  obtain l := u_
  obtain l' := v_
  simp [nz_lit, nz1_lit, nz_agg, nz_sl, nz1_sl, encLTFind] at h
  first | (simp [h]; done) | (obtain ⟨⟩ := h; simp_all; done) | simp_all
@[simp] theorem c170_fn (l : List TFind) : c170.fn [.sl false 8 yTFind (ML encTFind l)] [] = some ((fun (l : List TFind) => l.length ≤ 1099511627776) l, (fun (l : List TFind) => (dB (mAreFinds l) : D)) l, (fun (l : List TFind) => []) l) :=
  mkCon_fn (fun x y h _ => c170_inj x y h) (l : (List TFind)) (by simp [nz, nz1, ML_nil, encLTFind]) rfl
@[simp] theorem c170_fn1 (s_l : Nat) (z_l : D) : c170.fn [.sl false s_l z_l []] [] = some ((fun (l : List TFind) => l.length ≤ 1099511627776) [], (fun (l : List TFind) => (dB (mAreFinds l) : D)) [], (fun (l : List TFind) => []) []) :=
  mkCon_fn (fun x y h _ => c170_inj x y h) ([] : (List TFind)) (by simp [nz, nz1, ML_nil, encLTFind]) rfl
theorem c170_pc (l : List TFind) (hpre : l.length ≤ 1099511627776) : PCo Try.prog 170 [encLTFind l] (Tab.of []) (dB (mAreFinds l)) (Tab.of []) := by
  refine pco_of_run [] (E := ⟨[c127, c206, c207, c127], []⟩) (m := false) (base := 0) (Env.ok_cons c127_ok (Env.ok_cons c206_ok (Env.ok_cons c207_ok (Env.ok_cons c127_ok Env.ok_nil)))) G_ok mix 300 6 Try.func170 (by kernel_rfl) rfl (by kernel_rfl) (by kernel_rfl) rfl ?_
  simp [Try.f170]
  have h : ((l.length : Int) ≤ 20) ↔ l.length ≤ 20 := by omega
  simp [mAreFinds, h, hpre]
theorem c170_ok : c170.ok Try.prog := mkCon_ok fun l hpre => c170_pc l hpre
def mFindThing (l : List TFind) (n : Int) : Int := indexBy (wantN nFind n) 0 l
/-- loop.example/g03007/laws.szFindS -/
noncomputable def c93 : Con := mkCon 93 false (α := (List TFind) × Int) (fun x => (fun (l : List TFind) (left : Int) => [encLTFind l, dI left]) x.1 x.2) (fun _ => []) (fun x => (fun (l : List TFind) (left : Int) => l.length ≤ maxLen ∧ 0 ≤ left ∧ left ≤ 1099511627776) x.1 x.2) (fun x => (fun (l : List TFind) (left : Int) => (dI (if left - l.length < 0 then -1 else left - l.length) : D)) x.1 x.2) (fun x => (fun (l : List TFind) (left : Int) => []) x.1 x.2)
@[simp] theorem c93_f : c93.f = 93 := rfl
@[simp] theorem c93_own : c93.own = false := rfl
theorem c93_inj : ∀ u_ v_ : (List TFind) × Int, ((fun x => (fun (l : List TFind) (left : Int) => [encLTFind l, dI left]) x.1 x.2) u_).map nz = ((fun x => (fun (l : List TFind) (left : Int) => [encLTFind l, dI left]) x.1 x.2) v_).map nz → u_ = v_ := by
  intro u_ v_ h
  obtain ⟨l, left⟩ := u_
  obtain ⟨l', left'⟩ := v_
  simp [nz_lit, nz1_lit, nz_agg, nz_sl, nz1_sl, encLTFind] at h
  first | (simp [h]; done) | (obtain ⟨⟩ := h; simp_all; done) | simp_all
@[simp] theorem c93_fn (l : List TFind) (left : Int) : c93.fn [.sl false 8 yTFind (ML encTFind l), .lit (.int .i64 left)] [] = some ((fun (l : List TFind) (left : Int) => l.length ≤ maxLen ∧ 0 ≤ left ∧ left ≤ 1099511627776) l left, (fun (l : List TFind) (left : Int) => (dI (if left - l.length < 0 then -1 else left - l.length) : D)) l left, (fun (l : List TFind) (left : Int) => []) l left) :=
  mkCon_fn (fun x y h _ => c93_inj x y h) ((l, left) : (List TFind) × Int) (by simp [nz, nz1, ML_nil, encLTFind]) rfl
@[simp] theorem c93_fn1 (s_l : Nat) (z_l : D) (left : Int) : c93.fn [.sl false s_l z_l [], .lit (.int .i64 left)] [] = some ((fun (l : List TFind) (left : Int) => l.length ≤ maxLen ∧ 0 ≤ left ∧ left ≤ 1099511627776) [] left, (fun (l : List TFind) (left : Int) => (dI (if left - l.length < 0 then -1 else left - l.length) : D)) [] left, (fun (l : List TFind) (left : Int) => []) [] left) :=
  mkCon_fn (fun x y h _ => c93_inj x y h) (([], left) : (List TFind) × Int) (by simp [nz, nz1, ML_nil, encLTFind]) rfl
theorem c93_pc (l : List TFind) (left : Int) (hpre : l.length ≤ maxLen ∧ 0 ≤ left ∧ left ≤ 1099511627776) : PCo Try.prog 93 [encLTFind l, dI left] (Tab.of []) (dI (if left - l.length < 0 then -1 else left - l.length)) (Tab.of []) := by
  refine pco_of_run [] (E := ⟨[], []⟩) (m := false) (base := 0) Env.ok_nil G_ok mix 300 6 Try.func93 (by kernel_rfl) rfl (by kernel_rfl) (by kernel_rfl) rfl ?_
  simp [Try.f93]
  simp [maxLen] at hpre
  all_goals omega
theorem c93_ok : c93.ok Try.prog := mkCon_ok fun ⟨l, left⟩ hpre => c93_pc l left hpre
/-- loop.example/g03007/laws.toFindS -/
noncomputable def c95 : Con := mkCon 95 false (α := (List TFind)) (fun x => (fun (l : List TFind) => [encLTFind l]) x) (fun _ => []) (fun x => (fun (l : List TFind) => l.length ≤ 1099511627776) x) (fun x => (fun (l : List TFind) => (.own (0, 1) 8 0 l.length : D)) x) (fun x => (fun (l : List TFind) => [((0, 1), .arr false 8 yTFind (ML encTFind l))]) x)
@[simp] theorem c95_f : c95.f = 95 := rfl
@[simp] theorem c95_own : c95.own = false := rfl
theorem c95_inj : ∀ u_ v_ : (List TFind), ((fun x => (fun (l : List TFind) => [encLTFind l]) x) u_).map nz = ((fun x => (fun (l : List TFind) => [encLTFind l]) x) v_).map nz → u_ = v_ := by
  intro u_ v_ h
  obtain l := u_
  obtain l' := v_
  simp [nz_lit, nz1_lit, nz_agg, nz_sl, nz1_sl, encLTFind] at h
  first | (simp [h]; done) | (obtain ⟨⟩ := h; simp_all; done) | simp_all
@[simp] theorem c95_fn (l : List TFind) : c95.fn [.sl false 8 yTFind (ML encTFind l)] [] = some ((fun (l : List TFind) => l.length ≤ 1099511627776) l, (fun (l : List TFind) => (.own (0, 1) 8 0 l.length : D)) l, (fun (l : List TFind) => [((0, 1), .arr false 8 yTFind (ML encTFind l))]) l) :=
  mkCon_fn (fun x y h _ => c95_inj x y h) (l : (List TFind)) (by simp [nz, nz1, ML_nil, encLTFind]) rfl
@[simp] theorem c95_fn1 (s_l : Nat) (z_l : D) : c95.fn [.sl false s_l z_l []] [] = some ((fun (l : List TFind) => l.length ≤ 1099511627776) [], (fun (l : List TFind) => (.own (0, 1) 8 0 l.length : D)) [], (fun (l : List TFind) => [((0, 1), .arr false 8 yTFind (ML encTFind l))]) []) :=
  mkCon_fn (fun x y h _ => c95_inj x y h) ([] : (List TFind)) (by simp [nz, nz1, ML_nil, encLTFind]) rfl
theorem c95_pc (l : List TFind) (hpre : l.length ≤ 1099511627776) : PCo Try.prog 95 [encLTFind l] (Tab.of []) (.own (0, 1) 8 0 l.length) (Tab.of [((0, 1), .arr false 8 yTFind (ML encTFind l))]) := by
  refine pco_of_run [] (E := ⟨[c42], []⟩) (m := false) (base := 0) (Env.ok_cons c42_ok Env.ok_nil) G_ok mix 300 6 Try.func95 (by kernel_rfl) rfl (by kernel_rfl) (by kernel_rfl) rfl ?_
  simp [Try.f95]
  refine ⟨by omega, ?_⟩
  refine loop_inv (fun p : Nat => p ≤ l.length) (fun p => [(0, encLTFind l), (3, .own (0, 1) 8 0 l.length), (4, dI p)]) (fun p => [((0, 1), .arr false 8 yTFind (ML encTFind (l.take p ++ List.replicate (l.length - p) ⟨⟨0, 0, 0, 0, 0⟩, 0, 0, 0⟩)))]) 2 (fun p => l.length - p) 0 100 (by simp) (by simp) (by first | (simp; done) | (simp; simp only [ML, List.map_replicate]; rfl)) ?_
  intro p hp
  simp
  refine ⟨fun hlt => ⟨by omega, by omega, Again.mk (p + 1) (by omega) (by simp [fill_step hlt]) (by first | omega | (simp; omega))⟩, fun hge => ?_⟩
  have : p = l.length := by omega
  subst this
  simp
theorem c95_ok : c95.ok Try.prog := mkCon_ok fun l hpre => c95_pc l hpre
/-- loop.example/g03007/laws.eqFindS -/
noncomputable def c97 : Con := mkCon 97 false (α := (List TFind) × (List TFind)) (fun x => (fun (a : List TFind) (b : List TFind) => [encLTFind a, encLTFind b]) x.1 x.2) (fun _ => []) (fun x => (fun (a : List TFind) (b : List TFind) => a.length ≤ 1099511627776 ∧ b.length ≤ 1099511627776) x.1 x.2) (fun x => (fun (a : List TFind) (b : List TFind) => (dB (decide (a = b)) : D)) x.1 x.2) (fun x => (fun (a : List TFind) (b : List TFind) => []) x.1 x.2)
@[simp] theorem c97_f : c97.f = 97 := rfl
@[simp] theorem c97_own : c97.own = false := rfl
theorem c97_inj : ∀ u_ v_ : (List TFind) × (List TFind), ((fun x => (fun (a : List TFind) (b : List TFind) => [encLTFind a, encLTFind b]) x.1 x.2) u_).map nz = ((fun x => (fun (a : List TFind) (b : List TFind) => [encLTFind a, encLTFind b]) x.1 x.2) v_).map nz → u_ = v_ := by
  intro u_ v_ h
  obtain ⟨a, b⟩ := u_
  obtain ⟨a', b'⟩ := v_
  simp [nz_lit, nz1_lit, nz_agg, nz_sl, nz1_sl, encLTFind] at h
  first | (simp [h]; done) | (obtain ⟨⟩ := h; simp_all; done) | simp_all
@[simp] theorem c97_fn (a : List TFind) (b : List TFind) : c97.fn [.sl false 8 yTFind (ML encTFind a), .sl false 8 yTFind (ML encTFind b)] [] = some ((fun (a : List TFind) (b : List TFind) => a.length ≤ 1099511627776 ∧ b.length ≤ 1099511627776) a b, (fun (a : List TFind) (b : List TFind) => (dB (decide (a = b)) : D)) a b, (fun (a : List TFind) (b : List TFind) => []) a b) :=
  mkCon_fn (fun x y h _ => c97_inj x y h) ((a, b) : (List TFind) × (List TFind)) (by simp [nz, nz1, ML_nil, encLTFind]) rfl
@[simp] theorem c97_fn1 (s_a : Nat) (z_a : D) (b : List TFind) : c97.fn [.sl false s_a z_a [], .sl false 8 yTFind (ML encTFind b)] [] = some ((fun (a : List TFind) (b : List TFind) => a.length ≤ 1099511627776 ∧ b.length ≤ 1099511627776) [] b, (fun (a : List TFind) (b : List TFind) => (dB (decide (a = b)) : D)) [] b, (fun (a : List TFind) (b : List TFind) => []) [] b) :=
  mkCon_fn (fun x y h _ => c97_inj x y h) (([], b) : (List TFind) × (List TFind)) (by simp [nz, nz1, ML_nil, encLTFind]) rfl
@[simp] theorem c97_fn2 (a : List TFind) (s_b : Nat) (z_b : D) : c97.fn [.sl false 8 yTFind (ML encTFind a), .sl false s_b z_b []] [] = some ((fun (a : List TFind) (b : List TFind) => a.length ≤ 1099511627776 ∧ b.length ≤ 1099511627776) a [], (fun (a : List TFind) (b : List TFind) => (dB (decide (a = b)) : D)) a [], (fun (a : List TFind) (b : List TFind) => []) a []) :=
  mkCon_fn (fun x y h _ => c97_inj x y h) ((a, []) : (List TFind) × (List TFind)) (by simp [nz, nz1, ML_nil, encLTFind]) rfl
@[simp] theorem c97_fn3 (s_a : Nat) (z_a : D) (s_b : Nat) (z_b : D) : c97.fn [.sl false s_a z_a [], .sl false s_b z_b []] [] = some ((fun (a : List TFind) (b : List TFind) => a.length ≤ 1099511627776 ∧ b.length ≤ 1099511627776) [] [], (fun (a : List TFind) (b : List TFind) => (dB (decide (a = b)) : D)) [] [], (fun (a : List TFind) (b : List TFind) => []) [] []) :=
  mkCon_fn (fun x y h _ => c97_inj x y h) (([], []) : (List TFind) × (List TFind)) (by simp [nz, nz1, ML_nil, encLTFind]) rfl
theorem c97_pc (a : List TFind) (b : List TFind) (hpre : a.length ≤ 1099511627776 ∧ b.length ≤ 1099511627776) : PCo Try.prog 97 [encLTFind a, encLTFind b] (Tab.of []) (dB (decide (a = b))) (Tab.of []) := by
  refine pco_of_run [] (E := ⟨[c167], []⟩) (m := false) (base := 0) (Env.ok_cons c167_ok Env.ok_nil) G_ok mix 300 6 Try.func97 (by kernel_rfl) rfl (by kernel_rfl) (by kernel_rfl) rfl ?_
  simp [Try.f97]
  obtain ⟨pre1, pre2⟩ := hpre
  refine ⟨fun h => ?_, fun h => by intro e; subst e; exact absurd rfl h⟩
  refine loop_inv (fun p : Nat => p ≤ a.length ∧ a.take p = b.take p) (fun p => [(0, encLTFind a), (1, encLTFind b), (5, dI p)]) (fun _ => []) 1 (fun p => a.length - p) 0 100 (by simp) (by simp) (by simp) ?_
  intro p ⟨hp, hi⟩
  simp
  refine ⟨fun hlt => ⟨by omega, fun h2 => ⟨by omega, Again.mk (p + 1) ⟨by omega, take_eq_step hi (by omega) (by omega) h2⟩ (by simp) (by first | omega | (simp; omega))⟩, fun h2 => by intro e; subst e; exact absurd rfl h2⟩, fun hge => ?_⟩
  exact take_eq_full hi (by omega) (by omega)
theorem c97_ok : c97.ok Try.prog := mkCon_ok fun ⟨a, b⟩ hpre => c97_pc a b hpre
end Go.Proofs.Ytadipfpojlceeaa
