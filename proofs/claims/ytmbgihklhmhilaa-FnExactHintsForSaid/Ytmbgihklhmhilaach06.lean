/- Contracts of the functions that the laws run. -/
import Derived.Test.Ytmbgihklhmhilaach04
import Derived.Test.YtmbgihklhmhilaaEngB
namespace Go.Proofs.Ytmbgihklhmhilaa
open Go Go.Eng
set_option linter.unusedSimpArgs false
set_option linter.unusedVariables false
set_option maxRecDepth 10000
set_option maxHeartbeats 1000000
def mIsFind (f : TFind) : Bool := mIsThing f.Thing && mIn f.Place 1 30 && mIn f.At 0 100000 && mIn f.Finder 0 999
/-- loop.example/g03007/laws.toFind -/
noncomputable def c34 : Con := mkCon 34 false (α := TFind) (fun x => (fun (a : TFind) => [encTFind a]) x) (fun _ => []) (fun x => (fun (a : TFind) => True) x) (fun x => (fun (a : TFind) => (encTFind a : D)) x) (fun x => (fun (a : TFind) => []) x)
@[simp] theorem c34_f : c34.f = 34 := rfl
@[simp] theorem c34_own : c34.own = false := rfl
theorem c34_inj : ∀ u_ v_ : TFind, ((fun x => (fun (a : TFind) => [encTFind a]) x) u_).map nz = ((fun x => (fun (a : TFind) => [encTFind a]) x) v_).map nz → u_ = v_ := by
  intro u_ v_ h
  obtain ⟨⟨a_Thing_Id, a_Thing_Kind, a_Thing_Colour, a_Thing_Size, a_Thing_Worth⟩, a_Place, a_At, a_Finder⟩ := u_
  obtain ⟨⟨a_Thing_Id', a_Thing_Kind', a_Thing_Colour', a_Thing_Size', a_Thing_Worth'⟩, a_Place', a_At', a_Finder'⟩ := v_
  simp [nz_lit, nz1_lit, nz_agg, nz_sl, nz1_sl, encTFind, encTThing] at h
  first | (simp [h]; done) | (obtain ⟨⟩ := h; simp_all; done) | simp_all
@[simp] theorem c34_fn (a_Thing_Id : Int) (a_Thing_Kind : Int) (a_Thing_Colour : Int) (a_Thing_Size : Int) (a_Thing_Worth : Int) (a_Place : Int) (a_At : Int) (a_Finder : Int) : c34.fn [.agg [.lit (.int .i64 a_Thing_Id), .lit (.int .i64 a_Thing_Kind), .lit (.int .i64 a_Thing_Colour), .lit (.int .i64 a_Thing_Size), .lit (.int .i64 a_Thing_Worth), .lit (.int .i64 a_Place), .lit (.int .i64 a_At), .lit (.int .i64 a_Finder)]] [] = some ((fun (a : TFind) => True) ⟨⟨a_Thing_Id, a_Thing_Kind, a_Thing_Colour, a_Thing_Size, a_Thing_Worth⟩, a_Place, a_At, a_Finder⟩, (fun (a : TFind) => (encTFind a : D)) ⟨⟨a_Thing_Id, a_Thing_Kind, a_Thing_Colour, a_Thing_Size, a_Thing_Worth⟩, a_Place, a_At, a_Finder⟩, (fun (a : TFind) => []) ⟨⟨a_Thing_Id, a_Thing_Kind, a_Thing_Colour, a_Thing_Size, a_Thing_Worth⟩, a_Place, a_At, a_Finder⟩) :=
  mkCon_fn (fun x y h _ => c34_inj x y h) (⟨⟨a_Thing_Id, a_Thing_Kind, a_Thing_Colour, a_Thing_Size, a_Thing_Worth⟩, a_Place, a_At, a_Finder⟩ : TFind) (by simp [nz, nz1, ML_nil, encTFind, encTThing]) rfl
theorem c34_pc (a : TFind) : PCo Try.prog 34 [encTFind a] (Tab.of []) (encTFind a) (Tab.of []) := by
  obtain ⟨⟨a_Thing_Id, a_Thing_Kind, a_Thing_Colour, a_Thing_Size, a_Thing_Worth⟩, a_Place, a_At, a_Finder⟩ := a
  refine pco_of_run [] (E := ⟨[c130], []⟩) (m := false) (base := 0) (Env.ok_cons c130_ok Env.ok_nil) G_ok mix 300 6 Try.func34 (by kernel_rfl) rfl (by kernel_rfl) (by kernel_rfl) rfl ?_
  simp [Try.f34]
  all_goals first | omega | (rw [Bool.eq_iff_iff]; simp; omega) | grind
theorem c34_ok : c34.ok Try.prog := mkCon_ok fun a hpre => c34_pc a
/-- loop.example/g03007/laws.eqFind -/
noncomputable def c172 : Con := mkCon 172 false (α := TFind × TFind) (fun x => (fun (a : TFind) (b : TFind) => [encTFind a, encTFind b]) x.1 x.2) (fun _ => []) (fun x => (fun (a : TFind) (b : TFind) => True) x.1 x.2) (fun x => (fun (a : TFind) (b : TFind) => (dB (decide (a = b)) : D)) x.1 x.2) (fun x => (fun (a : TFind) (b : TFind) => []) x.1 x.2)
@[simp] theorem c172_f : c172.f = 172 := rfl
@[simp] theorem c172_own : c172.own = false := rfl
theorem c172_inj : ∀ u_ v_ : TFind × TFind, ((fun x => (fun (a : TFind) (b : TFind) => [encTFind a, encTFind b]) x.1 x.2) u_).map nz = ((fun x => (fun (a : TFind) (b : TFind) => [encTFind a, encTFind b]) x.1 x.2) v_).map nz → u_ = v_ := by
  intro u_ v_ h
  obtain ⟨⟨⟨a_Thing_Id, a_Thing_Kind, a_Thing_Colour, a_Thing_Size, a_Thing_Worth⟩, a_Place, a_At, a_Finder⟩, ⟨⟨b_Thing_Id, b_Thing_Kind, b_Thing_Colour, b_Thing_Size, b_Thing_Worth⟩, b_Place, b_At, b_Finder⟩⟩ := u_
  obtain ⟨⟨⟨a_Thing_Id', a_Thing_Kind', a_Thing_Colour', a_Thing_Size', a_Thing_Worth'⟩, a_Place', a_At', a_Finder'⟩, ⟨⟨b_Thing_Id', b_Thing_Kind', b_Thing_Colour', b_Thing_Size', b_Thing_Worth'⟩, b_Place', b_At', b_Finder'⟩⟩ := v_
  simp [nz_lit, nz1_lit, nz_agg, nz_sl, nz1_sl, encTFind, encTThing] at h
  first | (simp [h]; done) | (obtain ⟨⟩ := h; simp_all; done) | simp_all
@[simp] theorem c172_fn (a_Thing_Id : Int) (a_Thing_Kind : Int) (a_Thing_Colour : Int) (a_Thing_Size : Int) (a_Thing_Worth : Int) (a_Place : Int) (a_At : Int) (a_Finder : Int) (b_Thing_Id : Int) (b_Thing_Kind : Int) (b_Thing_Colour : Int) (b_Thing_Size : Int) (b_Thing_Worth : Int) (b_Place : Int) (b_At : Int) (b_Finder : Int) : c172.fn [.agg [.lit (.int .i64 a_Thing_Id), .lit (.int .i64 a_Thing_Kind), .lit (.int .i64 a_Thing_Colour), .lit (.int .i64 a_Thing_Size), .lit (.int .i64 a_Thing_Worth), .lit (.int .i64 a_Place), .lit (.int .i64 a_At), .lit (.int .i64 a_Finder)], .agg [.lit (.int .i64 b_Thing_Id), .lit (.int .i64 b_Thing_Kind), .lit (.int .i64 b_Thing_Colour), .lit (.int .i64 b_Thing_Size), .lit (.int .i64 b_Thing_Worth), .lit (.int .i64 b_Place), .lit (.int .i64 b_At), .lit (.int .i64 b_Finder)]] [] = some ((fun (a : TFind) (b : TFind) => True) ⟨⟨a_Thing_Id, a_Thing_Kind, a_Thing_Colour, a_Thing_Size, a_Thing_Worth⟩, a_Place, a_At, a_Finder⟩ ⟨⟨b_Thing_Id, b_Thing_Kind, b_Thing_Colour, b_Thing_Size, b_Thing_Worth⟩, b_Place, b_At, b_Finder⟩, (fun (a : TFind) (b : TFind) => (dB (decide (a = b)) : D)) ⟨⟨a_Thing_Id, a_Thing_Kind, a_Thing_Colour, a_Thing_Size, a_Thing_Worth⟩, a_Place, a_At, a_Finder⟩ ⟨⟨b_Thing_Id, b_Thing_Kind, b_Thing_Colour, b_Thing_Size, b_Thing_Worth⟩, b_Place, b_At, b_Finder⟩, (fun (a : TFind) (b : TFind) => []) ⟨⟨a_Thing_Id, a_Thing_Kind, a_Thing_Colour, a_Thing_Size, a_Thing_Worth⟩, a_Place, a_At, a_Finder⟩ ⟨⟨b_Thing_Id, b_Thing_Kind, b_Thing_Colour, b_Thing_Size, b_Thing_Worth⟩, b_Place, b_At, b_Finder⟩) :=
  mkCon_fn (fun x y h _ => c172_inj x y h) ((⟨⟨a_Thing_Id, a_Thing_Kind, a_Thing_Colour, a_Thing_Size, a_Thing_Worth⟩, a_Place, a_At, a_Finder⟩, ⟨⟨b_Thing_Id, b_Thing_Kind, b_Thing_Colour, b_Thing_Size, b_Thing_Worth⟩, b_Place, b_At, b_Finder⟩) : TFind × TFind) (by simp [nz, nz1, ML_nil, encTFind, encTThing]) rfl
theorem c172_pc (a : TFind) (b : TFind) : PCo Try.prog 172 [encTFind a, encTFind b] (Tab.of []) (dB (decide (a = b))) (Tab.of []) := by
  obtain ⟨⟨a_Thing_Id, a_Thing_Kind, a_Thing_Colour, a_Thing_Size, a_Thing_Worth⟩, a_Place, a_At, a_Finder⟩ := a
  obtain ⟨⟨b_Thing_Id, b_Thing_Kind, b_Thing_Colour, b_Thing_Size, b_Thing_Worth⟩, b_Place, b_At, b_Finder⟩ := b
  refine pco_of_run [] (E := ⟨[c156], []⟩) (m := false) (base := 0) (Env.ok_cons c156_ok Env.ok_nil) G_ok mix 300 6 Try.func172 (by kernel_rfl) rfl (by kernel_rfl) (by kernel_rfl) rfl ?_
  simp [Try.f172]
  all_goals first | omega | (rw [Bool.eq_iff_iff]; simp; omega) | grind
theorem c172_ok : c172.ok Try.prog := mkCon_ok fun ⟨a, b⟩ hpre => c172_pc a b
/-- loop.example/g03007/spec.IsFind -/
noncomputable def c124 : Con := mkCon 124 false (α := TFind) (fun x => (fun (f : TFind) => [encTFind f]) x) (fun _ => []) (fun x => (fun (f : TFind) => True) x) (fun x => (fun (f : TFind) => (dB (mIsFind f) : D)) x) (fun x => (fun (f : TFind) => []) x)
@[simp] theorem c124_f : c124.f = 124 := rfl
@[simp] theorem c124_own : c124.own = false := rfl
theorem c124_inj : ∀ u_ v_ : TFind, ((fun x => (fun (f : TFind) => [encTFind f]) x) u_).map nz = ((fun x => (fun (f : TFind) => [encTFind f]) x) v_).map nz → u_ = v_ := by
  intro u_ v_ h
  obtain ⟨⟨f_Thing_Id, f_Thing_Kind, f_Thing_Colour, f_Thing_Size, f_Thing_Worth⟩, f_Place, f_At, f_Finder⟩ := u_
  obtain ⟨⟨f_Thing_Id', f_Thing_Kind', f_Thing_Colour', f_Thing_Size', f_Thing_Worth'⟩, f_Place', f_At', f_Finder'⟩ := v_
  simp [nz_lit, nz1_lit, nz_agg, nz_sl, nz1_sl, encTFind, encTThing] at h
  first | (simp [h]; done) | (obtain ⟨⟩ := h; simp_all; done) | simp_all
@[simp] theorem c124_fn (f_Thing_Id : Int) (f_Thing_Kind : Int) (f_Thing_Colour : Int) (f_Thing_Size : Int) (f_Thing_Worth : Int) (f_Place : Int) (f_At : Int) (f_Finder : Int) : c124.fn [.agg [.lit (.int .i64 f_Thing_Id), .lit (.int .i64 f_Thing_Kind), .lit (.int .i64 f_Thing_Colour), .lit (.int .i64 f_Thing_Size), .lit (.int .i64 f_Thing_Worth), .lit (.int .i64 f_Place), .lit (.int .i64 f_At), .lit (.int .i64 f_Finder)]] [] = some ((fun (f : TFind) => True) ⟨⟨f_Thing_Id, f_Thing_Kind, f_Thing_Colour, f_Thing_Size, f_Thing_Worth⟩, f_Place, f_At, f_Finder⟩, (fun (f : TFind) => (dB (mIsFind f) : D)) ⟨⟨f_Thing_Id, f_Thing_Kind, f_Thing_Colour, f_Thing_Size, f_Thing_Worth⟩, f_Place, f_At, f_Finder⟩, (fun (f : TFind) => []) ⟨⟨f_Thing_Id, f_Thing_Kind, f_Thing_Colour, f_Thing_Size, f_Thing_Worth⟩, f_Place, f_At, f_Finder⟩) :=
  mkCon_fn (fun x y h _ => c124_inj x y h) (⟨⟨f_Thing_Id, f_Thing_Kind, f_Thing_Colour, f_Thing_Size, f_Thing_Worth⟩, f_Place, f_At, f_Finder⟩ : TFind) (by simp [nz, nz1, ML_nil, encTFind, encTThing]) rfl
theorem c124_pc (f : TFind) : PCo Try.prog 124 [encTFind f] (Tab.of []) (dB (mIsFind f)) (Tab.of []) := by
  obtain ⟨⟨f_Thing_Id, f_Thing_Kind, f_Thing_Colour, f_Thing_Size, f_Thing_Worth⟩, f_Place, f_At, f_Finder⟩ := f
  refine pco_of_run [] (E := ⟨[c178, c210], []⟩) (m := false) (base := 0) (Env.ok_cons c178_ok (Env.ok_cons c210_ok Env.ok_nil)) G_ok mix 300 6 Try.func124 (by kernel_rfl) rfl (by kernel_rfl) (by kernel_rfl) rfl ?_
  simp [Try.f124]
  simp [mIsFind]
theorem c124_ok : c124.ok Try.prog := mkCon_ok fun f hpre => c124_pc f
/-- loop.example/g03007/impl.findChecks$1 -/
noncomputable def c267 : Con := mkCon 267 false (α := TFind) (fun x => (fun (f : TFind) => [encTFind f]) x) (fun _ => []) (fun x => (fun (f : TFind) => True) x) (fun x => (fun (f : TFind) => (dB (mIsThing f.Thing) : D)) x) (fun x => (fun (f : TFind) => []) x)
@[simp] theorem c267_f : c267.f = 267 := rfl
@[simp] theorem c267_own : c267.own = false := rfl
theorem c267_inj : ∀ u_ v_ : TFind, ((fun x => (fun (f : TFind) => [encTFind f]) x) u_).map nz = ((fun x => (fun (f : TFind) => [encTFind f]) x) v_).map nz → u_ = v_ := by
  intro u_ v_ h
  obtain ⟨⟨f_Thing_Id, f_Thing_Kind, f_Thing_Colour, f_Thing_Size, f_Thing_Worth⟩, f_Place, f_At, f_Finder⟩ := u_
  obtain ⟨⟨f_Thing_Id', f_Thing_Kind', f_Thing_Colour', f_Thing_Size', f_Thing_Worth'⟩, f_Place', f_At', f_Finder'⟩ := v_
  simp [nz_lit, nz1_lit, nz_agg, nz_sl, nz1_sl, encTFind, encTThing] at h
  first | (simp [h]; done) | (obtain ⟨⟩ := h; simp_all; done) | simp_all
@[simp] theorem c267_fn (f_Thing_Id : Int) (f_Thing_Kind : Int) (f_Thing_Colour : Int) (f_Thing_Size : Int) (f_Thing_Worth : Int) (f_Place : Int) (f_At : Int) (f_Finder : Int) : c267.fn [.agg [.lit (.int .i64 f_Thing_Id), .lit (.int .i64 f_Thing_Kind), .lit (.int .i64 f_Thing_Colour), .lit (.int .i64 f_Thing_Size), .lit (.int .i64 f_Thing_Worth), .lit (.int .i64 f_Place), .lit (.int .i64 f_At), .lit (.int .i64 f_Finder)]] [] = some ((fun (f : TFind) => True) ⟨⟨f_Thing_Id, f_Thing_Kind, f_Thing_Colour, f_Thing_Size, f_Thing_Worth⟩, f_Place, f_At, f_Finder⟩, (fun (f : TFind) => (dB (mIsThing f.Thing) : D)) ⟨⟨f_Thing_Id, f_Thing_Kind, f_Thing_Colour, f_Thing_Size, f_Thing_Worth⟩, f_Place, f_At, f_Finder⟩, (fun (f : TFind) => []) ⟨⟨f_Thing_Id, f_Thing_Kind, f_Thing_Colour, f_Thing_Size, f_Thing_Worth⟩, f_Place, f_At, f_Finder⟩) :=
  mkCon_fn (fun x y h _ => c267_inj x y h) (⟨⟨f_Thing_Id, f_Thing_Kind, f_Thing_Colour, f_Thing_Size, f_Thing_Worth⟩, f_Place, f_At, f_Finder⟩ : TFind) (by simp [nz, nz1, ML_nil, encTFind, encTThing]) rfl
theorem c267_pc (f : TFind) : PCo Try.prog 267 [encTFind f] (Tab.of []) (dB (mIsThing f.Thing)) (Tab.of []) := by
  obtain ⟨⟨f_Thing_Id, f_Thing_Kind, f_Thing_Colour, f_Thing_Size, f_Thing_Worth⟩, f_Place, f_At, f_Finder⟩ := f
  refine pco_of_run [] (E := ⟨[c231], []⟩) (m := false) (base := 0) (Env.ok_cons c231_ok Env.ok_nil) G_ok mix 300 6 Try.func267 (by kernel_rfl) rfl (by kernel_rfl) (by kernel_rfl) rfl ?_
  simp [Try.f267]
  all_goals first | omega | (rw [Bool.eq_iff_iff]; simp; omega) | grind
theorem c267_ok : c267.ok Try.prog := mkCon_ok fun f hpre => c267_pc f
/-- loop.example/g03007/impl.findChecks$2 -/
noncomputable def c268 : Con := mkCon 268 false (α := TFind) (fun x => (fun (f : TFind) => [encTFind f]) x) (fun _ => []) (fun x => (fun (f : TFind) => True) x) (fun x => (fun (f : TFind) => (dB (mIn f.Place 1 30) : D)) x) (fun x => (fun (f : TFind) => []) x)
@[simp] theorem c268_f : c268.f = 268 := rfl
@[simp] theorem c268_own : c268.own = false := rfl
theorem c268_inj : ∀ u_ v_ : TFind, ((fun x => (fun (f : TFind) => [encTFind f]) x) u_).map nz = ((fun x => (fun (f : TFind) => [encTFind f]) x) v_).map nz → u_ = v_ := by
  intro u_ v_ h
  obtain ⟨⟨f_Thing_Id, f_Thing_Kind, f_Thing_Colour, f_Thing_Size, f_Thing_Worth⟩, f_Place, f_At, f_Finder⟩ := u_
  obtain ⟨⟨f_Thing_Id', f_Thing_Kind', f_Thing_Colour', f_Thing_Size', f_Thing_Worth'⟩, f_Place', f_At', f_Finder'⟩ := v_
  simp [nz_lit, nz1_lit, nz_agg, nz_sl, nz1_sl, encTFind, encTThing] at h
  first | (simp [h]; done) | (obtain ⟨⟩ := h; simp_all; done) | simp_all
@[simp] theorem c268_fn (f_Thing_Id : Int) (f_Thing_Kind : Int) (f_Thing_Colour : Int) (f_Thing_Size : Int) (f_Thing_Worth : Int) (f_Place : Int) (f_At : Int) (f_Finder : Int) : c268.fn [.agg [.lit (.int .i64 f_Thing_Id), .lit (.int .i64 f_Thing_Kind), .lit (.int .i64 f_Thing_Colour), .lit (.int .i64 f_Thing_Size), .lit (.int .i64 f_Thing_Worth), .lit (.int .i64 f_Place), .lit (.int .i64 f_At), .lit (.int .i64 f_Finder)]] [] = some ((fun (f : TFind) => True) ⟨⟨f_Thing_Id, f_Thing_Kind, f_Thing_Colour, f_Thing_Size, f_Thing_Worth⟩, f_Place, f_At, f_Finder⟩, (fun (f : TFind) => (dB (mIn f.Place 1 30) : D)) ⟨⟨f_Thing_Id, f_Thing_Kind, f_Thing_Colour, f_Thing_Size, f_Thing_Worth⟩, f_Place, f_At, f_Finder⟩, (fun (f : TFind) => []) ⟨⟨f_Thing_Id, f_Thing_Kind, f_Thing_Colour, f_Thing_Size, f_Thing_Worth⟩, f_Place, f_At, f_Finder⟩) :=
  mkCon_fn (fun x y h _ => c268_inj x y h) (⟨⟨f_Thing_Id, f_Thing_Kind, f_Thing_Colour, f_Thing_Size, f_Thing_Worth⟩, f_Place, f_At, f_Finder⟩ : TFind) (by simp [nz, nz1, ML_nil, encTFind, encTThing]) rfl
theorem c268_pc (f : TFind) : PCo Try.prog 268 [encTFind f] (Tab.of []) (dB (mIn f.Place 1 30)) (Tab.of []) := by
  obtain ⟨⟨f_Thing_Id, f_Thing_Kind, f_Thing_Colour, f_Thing_Size, f_Thing_Worth⟩, f_Place, f_At, f_Finder⟩ := f
  refine pco_of_run [] (E := ⟨[c198], []⟩) (m := false) (base := 0) (Env.ok_cons c198_ok Env.ok_nil) G_ok mix 300 6 Try.func268 (by kernel_rfl) rfl (by kernel_rfl) (by kernel_rfl) rfl ?_
  simp [Try.f268]
  all_goals first | omega | (rw [Bool.eq_iff_iff]; simp; omega) | grind
theorem c268_ok : c268.ok Try.prog := mkCon_ok fun f hpre => c268_pc f
/-- loop.example/g03007/impl.findChecks$3 -/
noncomputable def c269 : Con := mkCon 269 false (α := TFind) (fun x => (fun (f : TFind) => [encTFind f]) x) (fun _ => []) (fun x => (fun (f : TFind) => True) x) (fun x => (fun (f : TFind) => (dB (mIn f.At 0 100000) : D)) x) (fun x => (fun (f : TFind) => []) x)
@[simp] theorem c269_f : c269.f = 269 := rfl
@[simp] theorem c269_own : c269.own = false := rfl
theorem c269_inj : ∀ u_ v_ : TFind, ((fun x => (fun (f : TFind) => [encTFind f]) x) u_).map nz = ((fun x => (fun (f : TFind) => [encTFind f]) x) v_).map nz → u_ = v_ := by
  intro u_ v_ h
  obtain ⟨⟨f_Thing_Id, f_Thing_Kind, f_Thing_Colour, f_Thing_Size, f_Thing_Worth⟩, f_Place, f_At, f_Finder⟩ := u_
  obtain ⟨⟨f_Thing_Id', f_Thing_Kind', f_Thing_Colour', f_Thing_Size', f_Thing_Worth'⟩, f_Place', f_At', f_Finder'⟩ := v_
  simp [nz_lit, nz1_lit, nz_agg, nz_sl, nz1_sl, encTFind, encTThing] at h
  first | (simp [h]; done) | (obtain ⟨⟩ := h; simp_all; done) | simp_all
@[simp] theorem c269_fn (f_Thing_Id : Int) (f_Thing_Kind : Int) (f_Thing_Colour : Int) (f_Thing_Size : Int) (f_Thing_Worth : Int) (f_Place : Int) (f_At : Int) (f_Finder : Int) : c269.fn [.agg [.lit (.int .i64 f_Thing_Id), .lit (.int .i64 f_Thing_Kind), .lit (.int .i64 f_Thing_Colour), .lit (.int .i64 f_Thing_Size), .lit (.int .i64 f_Thing_Worth), .lit (.int .i64 f_Place), .lit (.int .i64 f_At), .lit (.int .i64 f_Finder)]] [] = some ((fun (f : TFind) => True) ⟨⟨f_Thing_Id, f_Thing_Kind, f_Thing_Colour, f_Thing_Size, f_Thing_Worth⟩, f_Place, f_At, f_Finder⟩, (fun (f : TFind) => (dB (mIn f.At 0 100000) : D)) ⟨⟨f_Thing_Id, f_Thing_Kind, f_Thing_Colour, f_Thing_Size, f_Thing_Worth⟩, f_Place, f_At, f_Finder⟩, (fun (f : TFind) => []) ⟨⟨f_Thing_Id, f_Thing_Kind, f_Thing_Colour, f_Thing_Size, f_Thing_Worth⟩, f_Place, f_At, f_Finder⟩) :=
  mkCon_fn (fun x y h _ => c269_inj x y h) (⟨⟨f_Thing_Id, f_Thing_Kind, f_Thing_Colour, f_Thing_Size, f_Thing_Worth⟩, f_Place, f_At, f_Finder⟩ : TFind) (by simp [nz, nz1, ML_nil, encTFind, encTThing]) rfl
theorem c269_pc (f : TFind) : PCo Try.prog 269 [encTFind f] (Tab.of []) (dB (mIn f.At 0 100000)) (Tab.of []) := by
  obtain ⟨⟨f_Thing_Id, f_Thing_Kind, f_Thing_Colour, f_Thing_Size, f_Thing_Worth⟩, f_Place, f_At, f_Finder⟩ := f
  refine pco_of_run [] (E := ⟨[c198], []⟩) (m := false) (base := 0) (Env.ok_cons c198_ok Env.ok_nil) G_ok mix 300 6 Try.func269 (by kernel_rfl) rfl (by kernel_rfl) (by kernel_rfl) rfl ?_
  simp [Try.f269]
  all_goals first | omega | (rw [Bool.eq_iff_iff]; simp; omega) | grind
theorem c269_ok : c269.ok Try.prog := mkCon_ok fun f hpre => c269_pc f
/-- loop.example/g03007/impl.findChecks$4 -/
noncomputable def c270 : Con := mkCon 270 false (α := TFind) (fun x => (fun (f : TFind) => [encTFind f]) x) (fun _ => []) (fun x => (fun (f : TFind) => True) x) (fun x => (fun (f : TFind) => (dB (mIn f.Finder 0 999) : D)) x) (fun x => (fun (f : TFind) => []) x)
@[simp] theorem c270_f : c270.f = 270 := rfl
@[simp] theorem c270_own : c270.own = false := rfl
theorem c270_inj : ∀ u_ v_ : TFind, ((fun x => (fun (f : TFind) => [encTFind f]) x) u_).map nz = ((fun x => (fun (f : TFind) => [encTFind f]) x) v_).map nz → u_ = v_ := by
  intro u_ v_ h
  obtain ⟨⟨f_Thing_Id, f_Thing_Kind, f_Thing_Colour, f_Thing_Size, f_Thing_Worth⟩, f_Place, f_At, f_Finder⟩ := u_
  obtain ⟨⟨f_Thing_Id', f_Thing_Kind', f_Thing_Colour', f_Thing_Size', f_Thing_Worth'⟩, f_Place', f_At', f_Finder'⟩ := v_
  simp [nz_lit, nz1_lit, nz_agg, nz_sl, nz1_sl, encTFind, encTThing] at h
  first | (simp [h]; done) | (obtain ⟨⟩ := h; simp_all; done) | simp_all
@[simp] theorem c270_fn (f_Thing_Id : Int) (f_Thing_Kind : Int) (f_Thing_Colour : Int) (f_Thing_Size : Int) (f_Thing_Worth : Int) (f_Place : Int) (f_At : Int) (f_Finder : Int) : c270.fn [.agg [.lit (.int .i64 f_Thing_Id), .lit (.int .i64 f_Thing_Kind), .lit (.int .i64 f_Thing_Colour), .lit (.int .i64 f_Thing_Size), .lit (.int .i64 f_Thing_Worth), .lit (.int .i64 f_Place), .lit (.int .i64 f_At), .lit (.int .i64 f_Finder)]] [] = some ((fun (f : TFind) => True) ⟨⟨f_Thing_Id, f_Thing_Kind, f_Thing_Colour, f_Thing_Size, f_Thing_Worth⟩, f_Place, f_At, f_Finder⟩, (fun (f : TFind) => (dB (mIn f.Finder 0 999) : D)) ⟨⟨f_Thing_Id, f_Thing_Kind, f_Thing_Colour, f_Thing_Size, f_Thing_Worth⟩, f_Place, f_At, f_Finder⟩, (fun (f : TFind) => []) ⟨⟨f_Thing_Id, f_Thing_Kind, f_Thing_Colour, f_Thing_Size, f_Thing_Worth⟩, f_Place, f_At, f_Finder⟩) :=
  mkCon_fn (fun x y h _ => c270_inj x y h) (⟨⟨f_Thing_Id, f_Thing_Kind, f_Thing_Colour, f_Thing_Size, f_Thing_Worth⟩, f_Place, f_At, f_Finder⟩ : TFind) (by simp [nz, nz1, ML_nil, encTFind, encTThing]) rfl
theorem c270_pc (f : TFind) : PCo Try.prog 270 [encTFind f] (Tab.of []) (dB (mIn f.Finder 0 999)) (Tab.of []) := by
  obtain ⟨⟨f_Thing_Id, f_Thing_Kind, f_Thing_Colour, f_Thing_Size, f_Thing_Worth⟩, f_Place, f_At, f_Finder⟩ := f
  refine pco_of_run [] (E := ⟨[c198], []⟩) (m := false) (base := 0) (Env.ok_cons c198_ok Env.ok_nil) G_ok mix 300 6 Try.func270 (by kernel_rfl) rfl (by kernel_rfl) (by kernel_rfl) rfl ?_
  simp [Try.f270]
  all_goals first | omega | (rw [Bool.eq_iff_iff]; simp; omega) | grind
theorem c270_ok : c270.ok Try.prog := mkCon_ok fun f hpre => c270_pc f
/-- loop.example/g03007/impl.findChecks -/
noncomputable def c213 : Con := mkCon 213 false (α := Unit) (fun _ => []) (fun _ => []) (fun _ => True) (fun _ => (.agg [.fn (.func 267) [] [], .fn (.func 268) [] [], .fn (.func 269) [] [], .fn (.func 270) [] []] : D)) (fun _ => [])
@[simp] theorem c213_f : c213.f = 213 := rfl
@[simp] theorem c213_own : c213.own = false := rfl
theorem c213_inj : ∀ x y : Unit, ((fun _ => []) x).map nz = ((fun _ => []) y).map nz → x = y := fun _ _ _ => rfl
@[simp] theorem c213_fn : c213.fn [] [] = some (True, (.agg [.fn (.func 267) [] [], .fn (.func 268) [] [], .fn (.func 269) [] [], .fn (.func 270) [] []] : D), []) :=
  mkCon_fn (fun x y h _ => c213_inj x y h) (() : Unit) (by simp [nz, nz1, ML_nil]) rfl
theorem c213_pc  : PCo Try.prog 213 [] (Tab.of []) (.agg [.fn (.func 267) [] [], .fn (.func 268) [] [], .fn (.func 269) [] [], .fn (.func 270) [] []]) (Tab.of []) := by
  refine pco_of_run [] (E := ⟨[c267, c268, c269, c270], []⟩) (m := false) (base := 0) (Env.ok_cons c267_ok (Env.ok_cons c268_ok (Env.ok_cons c269_ok (Env.ok_cons c270_ok Env.ok_nil)))) G_ok mix 300 6 Try.func213 (by kernel_rfl) rfl (by kernel_rfl) (by kernel_rfl) rfl ?_
  simp [Try.f213]
  all_goals first | omega | (rw [Bool.eq_iff_iff]; simp; omega) | grind
theorem c213_ok : c213.ok Try.prog := mkCon_ok fun _ hpre => c213_pc 
/-- loop.example/g03007/impl.IsFind -/
noncomputable def c131 : Con := mkCon 131 false (α := TFind) (fun x => (fun (f : TFind) => [encTFind f]) x) (fun _ => []) (fun x => (fun (f : TFind) => True) x) (fun x => (fun (f : TFind) => (dB (mIsFind f) : D)) x) (fun x => (fun (f : TFind) => []) x)
@[simp] theorem c131_f : c131.f = 131 := rfl
@[simp] theorem c131_own : c131.own = false := rfl
theorem c131_inj : ∀ u_ v_ : TFind, ((fun x => (fun (f : TFind) => [encTFind f]) x) u_).map nz = ((fun x => (fun (f : TFind) => [encTFind f]) x) v_).map nz → u_ = v_ := by
  intro u_ v_ h
  obtain ⟨⟨f_Thing_Id, f_Thing_Kind, f_Thing_Colour, f_Thing_Size, f_Thing_Worth⟩, f_Place, f_At, f_Finder⟩ := u_
  obtain ⟨⟨f_Thing_Id', f_Thing_Kind', f_Thing_Colour', f_Thing_Size', f_Thing_Worth'⟩, f_Place', f_At', f_Finder'⟩ := v_
  simp [nz_lit, nz1_lit, nz_agg, nz_sl, nz1_sl, encTFind, encTThing] at h
  first | (simp [h]; done) | (obtain ⟨⟩ := h; simp_all; done) | simp_all
@[simp] theorem c131_fn (f_Thing_Id : Int) (f_Thing_Kind : Int) (f_Thing_Colour : Int) (f_Thing_Size : Int) (f_Thing_Worth : Int) (f_Place : Int) (f_At : Int) (f_Finder : Int) : c131.fn [.agg [.lit (.int .i64 f_Thing_Id), .lit (.int .i64 f_Thing_Kind), .lit (.int .i64 f_Thing_Colour), .lit (.int .i64 f_Thing_Size), .lit (.int .i64 f_Thing_Worth), .lit (.int .i64 f_Place), .lit (.int .i64 f_At), .lit (.int .i64 f_Finder)]] [] = some ((fun (f : TFind) => True) ⟨⟨f_Thing_Id, f_Thing_Kind, f_Thing_Colour, f_Thing_Size, f_Thing_Worth⟩, f_Place, f_At, f_Finder⟩, (fun (f : TFind) => (dB (mIsFind f) : D)) ⟨⟨f_Thing_Id, f_Thing_Kind, f_Thing_Colour, f_Thing_Size, f_Thing_Worth⟩, f_Place, f_At, f_Finder⟩, (fun (f : TFind) => []) ⟨⟨f_Thing_Id, f_Thing_Kind, f_Thing_Colour, f_Thing_Size, f_Thing_Worth⟩, f_Place, f_At, f_Finder⟩) :=
  mkCon_fn (fun x y h _ => c131_inj x y h) (⟨⟨f_Thing_Id, f_Thing_Kind, f_Thing_Colour, f_Thing_Size, f_Thing_Worth⟩, f_Place, f_At, f_Finder⟩ : TFind) (by simp [nz, nz1, ML_nil, encTFind, encTThing]) rfl
theorem c131_pc (f : TFind) : PCo Try.prog 131 [encTFind f] (Tab.of []) (dB (mIsFind f)) (Tab.of []) := by
  obtain ⟨⟨f_Thing_Id, f_Thing_Kind, f_Thing_Colour, f_Thing_Size, f_Thing_Worth⟩, f_Place, f_At, f_Finder⟩ := f
  refine pco_of_run [] (E := ⟨[c213, c267, c268, c269, c270], []⟩) (m := false) (base := 0) (Env.ok_cons c213_ok (Env.ok_cons c267_ok (Env.ok_cons c268_ok (Env.ok_cons c269_ok (Env.ok_cons c270_ok Env.ok_nil))))) G_ok mix 300 6 Try.func131 (by kernel_rfl) rfl (by kernel_rfl) (by kernel_rfl) rfl ?_
  simp [Try.f131]
  refine loop_unroll 400 ?_
  simp [mIsFind]
  grind
theorem c131_ok : c131.ok Try.prog := mkCon_ok fun f hpre => c131_pc f
@[simp] def nFind (f : TFind) : Int := f.Thing.Id
def mAreFinds (l : List TFind) : Bool := decide (l.length ≤ 20) && ascBy mIsFind nFind none l
/-- loop.example/g03007/spec.AreFinds -/
noncomputable def c166 : Con := mkCon 166 false (α := (List TFind)) (fun x => (fun (l : List TFind) => [encLTFind l]) x) (fun _ => []) (fun x => (fun (l : List TFind) => l.length ≤ 1099511627776) x) (fun x => (fun (l : List TFind) => (dB (mAreFinds l) : D)) x) (fun x => (fun (l : List TFind) => []) x)
@[simp] theorem c166_f : c166.f = 166 := rfl
@[simp] theorem c166_own : c166.own = false := rfl
theorem c166_inj : ∀ u_ v_ : (List TFind), ((fun x => (fun (l : List TFind) => [encLTFind l]) x) u_).map nz = ((fun x => (fun (l : List TFind) => [encLTFind l]) x) v_).map nz → u_ = v_ := by
  intro u_ v_ h
  obtain l := u_
  obtain l' := v_
  simp [nz_lit, nz1_lit, nz_agg, nz_sl, nz1_sl, encLTFind] at h
  first | (simp [h]; done) | (obtain ⟨⟩ := h; simp_all; done) | simp_all
@[simp] theorem c166_fn (l : List TFind) : c166.fn [.sl false 8 yTFind (ML encTFind l)] [] = some ((fun (l : List TFind) => l.length ≤ 1099511627776) l, (fun (l : List TFind) => (dB (mAreFinds l) : D)) l, (fun (l : List TFind) => []) l) :=
  mkCon_fn (fun x y h _ => c166_inj x y h) (l : (List TFind)) (by simp [nz, nz1, ML_nil, encLTFind]) rfl
@[simp] theorem c166_fn1 (s_l : Nat) (z_l : D) : c166.fn [.sl false s_l z_l []] [] = some ((fun (l : List TFind) => l.length ≤ 1099511627776) [], (fun (l : List TFind) => (dB (mAreFinds l) : D)) [], (fun (l : List TFind) => []) []) :=
  mkCon_fn (fun x y h _ => c166_inj x y h) ([] : (List TFind)) (by simp [nz, nz1, ML_nil, encLTFind]) rfl
theorem c166_pc (l : List TFind) (hpre : l.length ≤ 1099511627776) : PCo Try.prog 166 [encLTFind l] (Tab.of []) (dB (mAreFinds l)) (Tab.of []) := by
  refine pco_of_run [] (E := ⟨[c124], []⟩) (m := false) (base := 0) (Env.ok_cons c124_ok Env.ok_nil) G_ok mix 300 6 Try.func166 (by kernel_rfl) rfl (by kernel_rfl) (by kernel_rfl) rfl ?_
  simp [Try.f166]
  refine loop_inv (fun p : Nat => p ≤ l.length ∧ ascBy mIsFind nFind none l = ascBy mIsFind nFind (prevO nFind l p) (l.drop p)) (fun p => [(0, encLTFind l), (2, dB false), (3, dI p)]) (fun _ => []) 1 (fun p => l.length - p) 0 400 (by simp) (by simp) (by simp) ?_
  intro p ⟨hp, hi⟩
  simp
  refine ⟨fun hlt => ?_, fun hge => ?_⟩
  · rw [ascBy_at hlt] at hi; simp only [nFind, wantN] at hi
    refine ⟨by repeat' (first | omega | refine And.intro ?_ ?_ | intro _), fun h => ?_, fun h1 h2 => ⟨by omega, Again.mk (p + 1) ⟨by omega, ?_⟩ (by simp) (by first | omega | (simp; omega))⟩⟩
    · rw [mAreFinds, hi]; grind
    · rw [hi]; grind
  · rw [mAreFinds, hi, ascBy_end hge]; simp; omega
theorem c166_ok : c166.ok Try.prog := mkCon_ok fun l hpre => c166_pc l hpre
/-- loop.example/g03007/impl.findsInOrder -/
noncomputable def c246 : Con := mkCon 246 false (α := (List TFind)) (fun x => (fun (l : List TFind) => [encLTFind l]) x) (fun _ => []) (fun x => (fun (l : List TFind) => True) x) (fun x => (fun (l : List TFind) => (.agg [.sl false 8 yTFind (ML encTFind l), .fn (.func 292) [] []] : D)) x) (fun x => (fun (l : List TFind) => []) x)
@[simp] theorem c246_f : c246.f = 246 := rfl
@[simp] theorem c246_own : c246.own = false := rfl
theorem c246_inj : ∀ u_ v_ : (List TFind), ((fun x => (fun (l : List TFind) => [encLTFind l]) x) u_).map nz = ((fun x => (fun (l : List TFind) => [encLTFind l]) x) v_).map nz → u_ = v_ := by
  intro u_ v_ h
  obtain l := u_
  obtain l' := v_
  simp [nz_lit, nz1_lit, nz_agg, nz_sl, nz1_sl, encLTFind] at h
  first | (simp [h]; done) | (obtain ⟨⟩ := h; simp_all; done) | simp_all
@[simp] theorem c246_fn (l : List TFind) : c246.fn [.sl false 8 yTFind (ML encTFind l)] [] = some ((fun (l : List TFind) => True) l, (fun (l : List TFind) => (.agg [.sl false 8 yTFind (ML encTFind l), .fn (.func 292) [] []] : D)) l, (fun (l : List TFind) => []) l) :=
  mkCon_fn (fun x y h _ => c246_inj x y h) (l : (List TFind)) (by simp [nz, nz1, ML_nil, encLTFind]) rfl
@[simp] theorem c246_fn1 (s_l : Nat) (z_l : D) : c246.fn [.sl false s_l z_l []] [] = some ((fun (l : List TFind) => True) [], (fun (l : List TFind) => (.agg [.sl false 8 yTFind (ML encTFind l), .fn (.func 292) [] []] : D)) [], (fun (l : List TFind) => []) []) :=
  mkCon_fn (fun x y h _ => c246_inj x y h) ([] : (List TFind)) (by simp [nz, nz1, ML_nil, encLTFind]) rfl
theorem c246_pc (l : List TFind) : PCo Try.prog 246 [encLTFind l] (Tab.of []) (.agg [.sl false 8 yTFind (ML encTFind l), .fn (.func 292) [] []]) (Tab.of []) := by
  refine pco_of_run [] (E := ⟨[], []⟩) (m := false) (base := 0) Env.ok_nil G_ok mix 300 6 Try.func246 (by kernel_rfl) rfl (by kernel_rfl) (by kernel_rfl) rfl ?_
  simp [Try.f246]
  all_goals first | omega | (rw [Bool.eq_iff_iff]; simp; omega) | grind
theorem c246_ok : c246.ok Try.prog := mkCon_ok fun l hpre => c246_pc l
/-- loop.example/g03007/impl.findsInOrder$1 -/
noncomputable def c292 : Con := mkCon 292 false (α := TFind) (fun x => (fun (x : TFind) => [encTFind x]) x) (fun _ => []) (fun x => (fun (x : TFind) => True) x) (fun x => (fun (x : TFind) => (dI (nFind x) : D)) x) (fun x => (fun (x : TFind) => []) x)
@[simp] theorem c292_f : c292.f = 292 := rfl
@[simp] theorem c292_own : c292.own = false := rfl
theorem c292_inj : ∀ u_ v_ : TFind, ((fun x => (fun (x : TFind) => [encTFind x]) x) u_).map nz = ((fun x => (fun (x : TFind) => [encTFind x]) x) v_).map nz → u_ = v_ := by
  intro u_ v_ h
  obtain ⟨⟨x_Thing_Id, x_Thing_Kind, x_Thing_Colour, x_Thing_Size, x_Thing_Worth⟩, x_Place, x_At, x_Finder⟩ := u_
  obtain ⟨⟨x_Thing_Id', x_Thing_Kind', x_Thing_Colour', x_Thing_Size', x_Thing_Worth'⟩, x_Place', x_At', x_Finder'⟩ := v_
  simp [nz_lit, nz1_lit, nz_agg, nz_sl, nz1_sl, encTFind, encTThing] at h
  first | (simp [h]; done) | (obtain ⟨⟩ := h; simp_all; done) | simp_all
@[simp] theorem c292_fn (x_Thing_Id : Int) (x_Thing_Kind : Int) (x_Thing_Colour : Int) (x_Thing_Size : Int) (x_Thing_Worth : Int) (x_Place : Int) (x_At : Int) (x_Finder : Int) : c292.fn [.agg [.lit (.int .i64 x_Thing_Id), .lit (.int .i64 x_Thing_Kind), .lit (.int .i64 x_Thing_Colour), .lit (.int .i64 x_Thing_Size), .lit (.int .i64 x_Thing_Worth), .lit (.int .i64 x_Place), .lit (.int .i64 x_At), .lit (.int .i64 x_Finder)]] [] = some ((fun (x : TFind) => True) ⟨⟨x_Thing_Id, x_Thing_Kind, x_Thing_Colour, x_Thing_Size, x_Thing_Worth⟩, x_Place, x_At, x_Finder⟩, (fun (x : TFind) => (dI (nFind x) : D)) ⟨⟨x_Thing_Id, x_Thing_Kind, x_Thing_Colour, x_Thing_Size, x_Thing_Worth⟩, x_Place, x_At, x_Finder⟩, (fun (x : TFind) => []) ⟨⟨x_Thing_Id, x_Thing_Kind, x_Thing_Colour, x_Thing_Size, x_Thing_Worth⟩, x_Place, x_At, x_Finder⟩) :=
  mkCon_fn (fun x y h _ => c292_inj x y h) (⟨⟨x_Thing_Id, x_Thing_Kind, x_Thing_Colour, x_Thing_Size, x_Thing_Worth⟩, x_Place, x_At, x_Finder⟩ : TFind) (by simp [nz, nz1, ML_nil, encTFind, encTThing]) rfl
theorem c292_pc (x : TFind) : PCo Try.prog 292 [encTFind x] (Tab.of []) (dI (nFind x)) (Tab.of []) := by
  obtain ⟨⟨x_Thing_Id, x_Thing_Kind, x_Thing_Colour, x_Thing_Size, x_Thing_Worth⟩, x_Place, x_At, x_Finder⟩ := x
  refine pco_of_run [] (E := ⟨[], []⟩) (m := false) (base := 0) Env.ok_nil G_ok mix 300 6 Try.func292 (by kernel_rfl) rfl (by kernel_rfl) (by kernel_rfl) rfl ?_
  simp [Try.f292]
  all_goals first | omega | (rw [Bool.eq_iff_iff]; simp; omega) | grind
theorem c292_ok : c292.ok Try.prog := mkCon_ok fun x hpre => c292_pc x
/-- (loop.example/g03007/impl.sortedList[loop.example/g03007/impl.Find]).isValid -/
noncomputable def c247 : Con := mkCon 247 false (α := (List TFind) × Int) (fun x => (fun (l : List TFind) (lim : Int) => ([.agg [.sl false 8 yTFind (ML encTFind l), .fn (.func 292) [] []], dI lim, .fn (.func 131) [] []] : List D)) x.1 x.2) (fun x => (fun (l : List TFind) (lim : Int) => ([] : List (Nm × OO))) x.1 x.2) (fun x => (fun (l : List TFind) (lim : Int) => l.length ≤ 1099511627776) x.1 x.2) (fun x => (fun (l : List TFind) (lim : Int) => (dB (decide (l.length ≤ lim) && ascBy mIsFind nFind none l) : D)) x.1 x.2) (fun x => (fun (l : List TFind) (lim : Int) => ([] : List (Nm × OO))) x.1 x.2)
@[simp] theorem c247_f : c247.f = 247 := rfl
@[simp] theorem c247_own : c247.own = false := rfl
theorem c247_inj : ∀ u_ v_ : (List TFind) × Int, ((fun x => (fun (l : List TFind) (lim : Int) => ([.agg [.sl false 8 yTFind (ML encTFind l), .fn (.func 292) [] []], dI lim, .fn (.func 131) [] []] : List D)) x.1 x.2) u_).map nz = ((fun x => (fun (l : List TFind) (lim : Int) => ([.agg [.sl false 8 yTFind (ML encTFind l), .fn (.func 292) [] []], dI lim, .fn (.func 131) [] []] : List D)) x.1 x.2) v_).map nz → (fun x => (fun (l : List TFind) (lim : Int) => ([] : List (Nm × OO))) x.1 x.2) u_ = (fun x => (fun (l : List TFind) (lim : Int) => ([] : List (Nm × OO))) x.1 x.2) v_ → u_ = v_ := by
  intro u_ v_ h h2_
  obtain ⟨l, lim⟩ := u_
  obtain ⟨l', lim'⟩ := v_
  simp [nz_lit, nz1_lit, nz_agg, nz_sl, nz1_sl, nz_sx, nz_el, nz1_el, nz_own, nz1_own, nz_ptr, nz_fn, nz_iface] at h h2_
  first | (simp [h, h2_]; done) | (obtain ⟨h3_, h4_⟩ := List.append_inj h2_ h.1; simp_all; done) | simp_all | grind
@[simp] theorem c247_fn (l : List TFind) (lim : Int) : c247.fn ([.agg [.sl false 8 yTFind (ML encTFind l), .fn (.func 292) [] []], dI lim, .fn (.func 131) [] []]) ([]) = some (l.length ≤ 1099511627776, dB (decide (l.length ≤ lim) && ascBy mIsFind nFind none l), []) :=
  mkCon_fn c247_inj ((l, lim) : (List TFind) × Int) rfl rfl
theorem c247_pc (l : List TFind) (lim : Int) (hpre : l.length ≤ 1099511627776) : PCo Try.prog 247 ([.agg [.sl false 8 yTFind (ML encTFind l), .fn (.func 292) [] []], dI lim, .fn (.func 131) [] []]) (Tab.of ([])) (dB (decide (l.length ≤ lim) && ascBy mIsFind nFind none l)) (Tab.of ([])) := by
  refine pco_of_run [6] (E := ⟨[c292, c131], []⟩) (m := false) (base := 0) (Env.ok_cons c292_ok (Env.ok_cons c131_ok Env.ok_nil)) G_ok mix 300 6 Try.func247 (by kernel_rfl) rfl (by kernel_rfl) (by kernel_rfl) rfl ?_
  simp [Try.f247]
  refine ⟨fun h h2 => by omega, fun hlim => ?_⟩
  refine loop_inv (fun p : Nat => p ≤ l.length ∧ ascBy mIsFind nFind none l = ascBy mIsFind nFind (prevO nFind l p) (l.drop p)) (fun p => [(2, .fn (.func 131) [] []), (3, .ptr (0, 1) 0), (6, dB false), (15, .sl false 8 yTFind (ML encTFind l)), (16, dI l.length), (17, dI p)]) (fun _ => [((0, 1), .box (.agg [.sl false 8 yTFind (ML encTFind l), .fn (.func 292) [] []]))]) 2 (fun p => l.length - p) 0 400 (by simp) (by simp) (by simp) ?_
  intro p ⟨hp, hi⟩
  simp
  refine ⟨fun hlt => ?_, fun hge => ?_⟩
  · rw [ascBy_at hlt] at hi; simp only [nFind, wantN] at hi
    repeat' (first | omega | refine And.intro ?_ ?_ | intro _)
    all_goals first | exact Again.mk (p + 1) ⟨by omega, by rw [hi]; grind⟩ (by simp) (by first | omega | (simp; omega)) | (rw [hi]; grind)
  · rw [hi, ascBy_end hge]; simp; omega
theorem c247_ok : c247.ok Try.prog := mkCon_ok fun ⟨l, lim⟩ hpre => c247_pc l lim hpre
/-- loop.example/g03007/impl.AreFinds -/
noncomputable def c168 : Con := mkCon 168 false (α := (List TFind)) (fun x => (fun (l : List TFind) => [encLTFind l]) x) (fun _ => []) (fun x => (fun (l : List TFind) => l.length ≤ 1099511627776) x) (fun x => (fun (l : List TFind) => (dB (mAreFinds l) : D)) x) (fun x => (fun (l : List TFind) => []) x)
@[simp] theorem c168_f : c168.f = 168 := rfl
@[simp] theorem c168_own : c168.own = false := rfl
theorem c168_inj : ∀ u_ v_ : (List TFind), ((fun x => (fun (l : List TFind) => [encLTFind l]) x) u_).map nz = ((fun x => (fun (l : List TFind) => [encLTFind l]) x) v_).map nz → u_ = v_ := by
  intro u_ v_ h
  obtain l := u_
  obtain l' := v_
  simp [nz_lit, nz1_lit, nz_agg, nz_sl, nz1_sl, encLTFind] at h
  first | (simp [h]; done) | (obtain ⟨⟩ := h; simp_all; done) | simp_all
@[simp] theorem c168_fn (l : List TFind) : c168.fn [.sl false 8 yTFind (ML encTFind l)] [] = some ((fun (l : List TFind) => l.length ≤ 1099511627776) l, (fun (l : List TFind) => (dB (mAreFinds l) : D)) l, (fun (l : List TFind) => []) l) :=
  mkCon_fn (fun x y h _ => c168_inj x y h) (l : (List TFind)) (by simp [nz, nz1, ML_nil, encLTFind]) rfl
@[simp] theorem c168_fn1 (s_l : Nat) (z_l : D) : c168.fn [.sl false s_l z_l []] [] = some ((fun (l : List TFind) => l.length ≤ 1099511627776) [], (fun (l : List TFind) => (dB (mAreFinds l) : D)) [], (fun (l : List TFind) => []) []) :=
  mkCon_fn (fun x y h _ => c168_inj x y h) ([] : (List TFind)) (by simp [nz, nz1, ML_nil, encLTFind]) rfl
theorem c168_pc (l : List TFind) (hpre : l.length ≤ 1099511627776) : PCo Try.prog 168 [encLTFind l] (Tab.of []) (dB (mAreFinds l)) (Tab.of []) := by
  refine pco_of_run [] (E := ⟨[c131, c246, c247, c131], []⟩) (m := false) (base := 0) (Env.ok_cons c131_ok (Env.ok_cons c246_ok (Env.ok_cons c247_ok (Env.ok_cons c131_ok Env.ok_nil)))) G_ok mix 300 6 Try.func168 (by kernel_rfl) rfl (by kernel_rfl) (by kernel_rfl) rfl ?_
  simp [Try.f168]
  have h : ((l.length : Int) ≤ 20) ↔ l.length ≤ 20 := by omega
  simp [mAreFinds, h, hpre]
theorem c168_ok : c168.ok Try.prog := mkCon_ok fun l hpre => c168_pc l hpre
def mFindThing (l : List TFind) (n : Int) : Int := indexBy (wantN nFind n) 0 l
/-- loop.example/g03007/laws.szFindS -/
noncomputable def c69 : Con := mkCon 69 false (α := (List TFind) × Int) (fun x => (fun (l : List TFind) (left : Int) => [encLTFind l, dI left]) x.1 x.2) (fun _ => []) (fun x => (fun (l : List TFind) (left : Int) => l.length ≤ maxLen ∧ 0 ≤ left ∧ left ≤ 1099511627776) x.1 x.2) (fun x => (fun (l : List TFind) (left : Int) => (dI (if left - l.length < 0 then -1 else left - l.length) : D)) x.1 x.2) (fun x => (fun (l : List TFind) (left : Int) => []) x.1 x.2)
@[simp] theorem c69_f : c69.f = 69 := rfl
@[simp] theorem c69_own : c69.own = false := rfl
theorem c69_inj : ∀ u_ v_ : (List TFind) × Int, ((fun x => (fun (l : List TFind) (left : Int) => [encLTFind l, dI left]) x.1 x.2) u_).map nz = ((fun x => (fun (l : List TFind) (left : Int) => [encLTFind l, dI left]) x.1 x.2) v_).map nz → u_ = v_ := by
  intro u_ v_ h
  obtain ⟨l, left⟩ := u_
  obtain ⟨l', left'⟩ := v_
  simp [nz_lit, nz1_lit, nz_agg, nz_sl, nz1_sl, encLTFind] at h
  first | (simp [h]; done) | (obtain ⟨⟩ := h; simp_all; done) | simp_all
@[simp] theorem c69_fn (l : List TFind) (left : Int) : c69.fn [.sl false 8 yTFind (ML encTFind l), .lit (.int .i64 left)] [] = some ((fun (l : List TFind) (left : Int) => l.length ≤ maxLen ∧ 0 ≤ left ∧ left ≤ 1099511627776) l left, (fun (l : List TFind) (left : Int) => (dI (if left - l.length < 0 then -1 else left - l.length) : D)) l left, (fun (l : List TFind) (left : Int) => []) l left) :=
  mkCon_fn (fun x y h _ => c69_inj x y h) ((l, left) : (List TFind) × Int) (by simp [nz, nz1, ML_nil, encLTFind]) rfl
@[simp] theorem c69_fn1 (s_l : Nat) (z_l : D) (left : Int) : c69.fn [.sl false s_l z_l [], .lit (.int .i64 left)] [] = some ((fun (l : List TFind) (left : Int) => l.length ≤ maxLen ∧ 0 ≤ left ∧ left ≤ 1099511627776) [] left, (fun (l : List TFind) (left : Int) => (dI (if left - l.length < 0 then -1 else left - l.length) : D)) [] left, (fun (l : List TFind) (left : Int) => []) [] left) :=
  mkCon_fn (fun x y h _ => c69_inj x y h) (([], left) : (List TFind) × Int) (by simp [nz, nz1, ML_nil, encLTFind]) rfl
theorem c69_pc (l : List TFind) (left : Int) (hpre : l.length ≤ maxLen ∧ 0 ≤ left ∧ left ≤ 1099511627776) : PCo Try.prog 69 [encLTFind l, dI left] (Tab.of []) (dI (if left - l.length < 0 then -1 else left - l.length)) (Tab.of []) := by
  refine pco_of_run [] (E := ⟨[], []⟩) (m := false) (base := 0) Env.ok_nil G_ok mix 300 6 Try.func69 (by kernel_rfl) rfl (by kernel_rfl) (by kernel_rfl) rfl ?_
  simp [Try.f69]
  simp [maxLen] at hpre
  all_goals omega
theorem c69_ok : c69.ok Try.prog := mkCon_ok fun ⟨l, left⟩ hpre => c69_pc l left hpre
/-- loop.example/g03007/laws.toFindS -/
noncomputable def c71 : Con := mkCon 71 false (α := (List TFind)) (fun x => (fun (l : List TFind) => [encLTFind l]) x) (fun _ => []) (fun x => (fun (l : List TFind) => l.length ≤ 1099511627776) x) (fun x => (fun (l : List TFind) => (.own (0, 1) 8 0 l.length : D)) x) (fun x => (fun (l : List TFind) => [((0, 1), .arr false 8 yTFind (ML encTFind l))]) x)
@[simp] theorem c71_f : c71.f = 71 := rfl
@[simp] theorem c71_own : c71.own = false := rfl
theorem c71_inj : ∀ u_ v_ : (List TFind), ((fun x => (fun (l : List TFind) => [encLTFind l]) x) u_).map nz = ((fun x => (fun (l : List TFind) => [encLTFind l]) x) v_).map nz → u_ = v_ := by
  intro u_ v_ h
  obtain l := u_
  obtain l' := v_
  simp [nz_lit, nz1_lit, nz_agg, nz_sl, nz1_sl, encLTFind] at h
  first | (simp [h]; done) | (obtain ⟨⟩ := h; simp_all; done) | simp_all
@[simp] theorem c71_fn (l : List TFind) : c71.fn [.sl false 8 yTFind (ML encTFind l)] [] = some ((fun (l : List TFind) => l.length ≤ 1099511627776) l, (fun (l : List TFind) => (.own (0, 1) 8 0 l.length : D)) l, (fun (l : List TFind) => [((0, 1), .arr false 8 yTFind (ML encTFind l))]) l) :=
  mkCon_fn (fun x y h _ => c71_inj x y h) (l : (List TFind)) (by simp [nz, nz1, ML_nil, encLTFind]) rfl
@[simp] theorem c71_fn1 (s_l : Nat) (z_l : D) : c71.fn [.sl false s_l z_l []] [] = some ((fun (l : List TFind) => l.length ≤ 1099511627776) [], (fun (l : List TFind) => (.own (0, 1) 8 0 l.length : D)) [], (fun (l : List TFind) => [((0, 1), .arr false 8 yTFind (ML encTFind l))]) []) :=
  mkCon_fn (fun x y h _ => c71_inj x y h) ([] : (List TFind)) (by simp [nz, nz1, ML_nil, encLTFind]) rfl
theorem c71_pc (l : List TFind) (hpre : l.length ≤ 1099511627776) : PCo Try.prog 71 [encLTFind l] (Tab.of []) (.own (0, 1) 8 0 l.length) (Tab.of [((0, 1), .arr false 8 yTFind (ML encTFind l))]) := by
  refine pco_of_run [] (E := ⟨[c34], []⟩) (m := false) (base := 0) (Env.ok_cons c34_ok Env.ok_nil) G_ok mix 300 6 Try.func71 (by kernel_rfl) rfl (by kernel_rfl) (by kernel_rfl) rfl ?_
  simp [Try.f71]
  refine ⟨by omega, ?_⟩
  refine loop_inv (fun p : Nat => p ≤ l.length) (fun p => [(0, encLTFind l), (3, .own (0, 1) 8 0 l.length), (4, dI p)]) (fun p => [((0, 1), .arr false 8 yTFind (ML encTFind (l.take p ++ List.replicate (l.length - p) ⟨⟨0, 0, 0, 0, 0⟩, 0, 0, 0⟩)))]) 2 (fun p => l.length - p) 0 100 (by simp) (by simp) (by first | (simp; done) | (simp; simp only [ML, List.map_replicate]; rfl)) ?_
  intro p hp
  simp
  refine ⟨fun hlt => ⟨by omega, by omega, Again.mk (p + 1) (by omega) (by simp [fill_step hlt]) (by first | omega | (simp; omega))⟩, fun hge => ?_⟩
  have : p = l.length := by omega
  subst this
  simp
theorem c71_ok : c71.ok Try.prog := mkCon_ok fun l hpre => c71_pc l hpre
/-- loop.example/g03007/laws.eqFindS -/
noncomputable def c73 : Con := mkCon 73 false (α := (List TFind) × (List TFind)) (fun x => (fun (a : List TFind) (b : List TFind) => [encLTFind a, encLTFind b]) x.1 x.2) (fun _ => []) (fun x => (fun (a : List TFind) (b : List TFind) => a.length ≤ 1099511627776 ∧ b.length ≤ 1099511627776) x.1 x.2) (fun x => (fun (a : List TFind) (b : List TFind) => (dB (decide (a = b)) : D)) x.1 x.2) (fun x => (fun (a : List TFind) (b : List TFind) => []) x.1 x.2)
@[simp] theorem c73_f : c73.f = 73 := rfl
@[simp] theorem c73_own : c73.own = false := rfl
theorem c73_inj : ∀ u_ v_ : (List TFind) × (List TFind), ((fun x => (fun (a : List TFind) (b : List TFind) => [encLTFind a, encLTFind b]) x.1 x.2) u_).map nz = ((fun x => (fun (a : List TFind) (b : List TFind) => [encLTFind a, encLTFind b]) x.1 x.2) v_).map nz → u_ = v_ := by
  intro u_ v_ h
  obtain ⟨a, b⟩ := u_
  obtain ⟨a', b'⟩ := v_
  simp [nz_lit, nz1_lit, nz_agg, nz_sl, nz1_sl, encLTFind] at h
  first | (simp [h]; done) | (obtain ⟨⟩ := h; simp_all; done) | simp_all
@[simp] theorem c73_fn (a : List TFind) (b : List TFind) : c73.fn [.sl false 8 yTFind (ML encTFind a), .sl false 8 yTFind (ML encTFind b)] [] = some ((fun (a : List TFind) (b : List TFind) => a.length ≤ 1099511627776 ∧ b.length ≤ 1099511627776) a b, (fun (a : List TFind) (b : List TFind) => (dB (decide (a = b)) : D)) a b, (fun (a : List TFind) (b : List TFind) => []) a b) :=
  mkCon_fn (fun x y h _ => c73_inj x y h) ((a, b) : (List TFind) × (List TFind)) (by simp [nz, nz1, ML_nil, encLTFind]) rfl
@[simp] theorem c73_fn1 (s_a : Nat) (z_a : D) (b : List TFind) : c73.fn [.sl false s_a z_a [], .sl false 8 yTFind (ML encTFind b)] [] = some ((fun (a : List TFind) (b : List TFind) => a.length ≤ 1099511627776 ∧ b.length ≤ 1099511627776) [] b, (fun (a : List TFind) (b : List TFind) => (dB (decide (a = b)) : D)) [] b, (fun (a : List TFind) (b : List TFind) => []) [] b) :=
  mkCon_fn (fun x y h _ => c73_inj x y h) (([], b) : (List TFind) × (List TFind)) (by simp [nz, nz1, ML_nil, encLTFind]) rfl
@[simp] theorem c73_fn2 (a : List TFind) (s_b : Nat) (z_b : D) : c73.fn [.sl false 8 yTFind (ML encTFind a), .sl false s_b z_b []] [] = some ((fun (a : List TFind) (b : List TFind) => a.length ≤ 1099511627776 ∧ b.length ≤ 1099511627776) a [], (fun (a : List TFind) (b : List TFind) => (dB (decide (a = b)) : D)) a [], (fun (a : List TFind) (b : List TFind) => []) a []) :=
  mkCon_fn (fun x y h _ => c73_inj x y h) ((a, []) : (List TFind) × (List TFind)) (by simp [nz, nz1, ML_nil, encLTFind]) rfl
@[simp] theorem c73_fn3 (s_a : Nat) (z_a : D) (s_b : Nat) (z_b : D) : c73.fn [.sl false s_a z_a [], .sl false s_b z_b []] [] = some ((fun (a : List TFind) (b : List TFind) => a.length ≤ 1099511627776 ∧ b.length ≤ 1099511627776) [] [], (fun (a : List TFind) (b : List TFind) => (dB (decide (a = b)) : D)) [] [], (fun (a : List TFind) (b : List TFind) => []) [] []) :=
  mkCon_fn (fun x y h _ => c73_inj x y h) (([], []) : (List TFind) × (List TFind)) (by simp [nz, nz1, ML_nil, encLTFind]) rfl
theorem c73_pc (a : List TFind) (b : List TFind) (hpre : a.length ≤ 1099511627776 ∧ b.length ≤ 1099511627776) : PCo Try.prog 73 [encLTFind a, encLTFind b] (Tab.of []) (dB (decide (a = b))) (Tab.of []) := by
  refine pco_of_run [] (E := ⟨[c172], []⟩) (m := false) (base := 0) (Env.ok_cons c172_ok Env.ok_nil) G_ok mix 300 6 Try.func73 (by kernel_rfl) rfl (by kernel_rfl) (by kernel_rfl) rfl ?_
  simp [Try.f73]
  obtain ⟨pre1, pre2⟩ := hpre
  refine ⟨fun h => ?_, fun h => by intro e; subst e; exact absurd rfl h⟩
  refine loop_inv (fun p : Nat => p ≤ a.length ∧ a.take p = b.take p) (fun p => [(0, encLTFind a), (1, encLTFind b), (5, dI p)]) (fun _ => []) 1 (fun p => a.length - p) 0 100 (by simp) (by simp) (by simp) ?_
  intro p ⟨hp, hi⟩
  simp
  refine ⟨fun hlt => ⟨by omega, fun h2 => ⟨by omega, Again.mk (p + 1) ⟨by omega, take_eq_step hi (by omega) (by omega) h2⟩ (by simp) (by first | omega | (simp; omega))⟩, fun h2 => by intro e; subst e; exact absurd rfl h2⟩, fun hge => ?_⟩
  exact take_eq_full hi (by omega) (by omega)
theorem c73_ok : c73.ok Try.prog := mkCon_ok fun ⟨a, b⟩ hpre => c73_pc a b hpre
abbrev mk_TFind : Int → TFind := fun n => ⟨⟨n, n + 1, n + 2, n + 3, n + 4⟩, n + 5, n + 6, n + 7⟩
/-- loop.example/g03007/laws.markFindS -/
noncomputable def c74 : Con := mkCon 74 true (α := (List TFind) × Int) (fun x => (fun (l : List TFind) (k : Int) => ([.own (0, 0) 8 0 l.length, dI k] : List D)) x.1 x.2) (fun x => (fun (l : List TFind) (k : Int) => ([((0, 0), .arr false 8 yTFind (ML encTFind l))] : List (Nm × OO))) x.1 x.2) (fun x => (fun (l : List TFind) (k : Int) => l.length ≤ 1099511627776 ∧ 0 ≤ k ∧ k ≤ 1152921504606846976) x.1 x.2) (fun x => (fun (l : List TFind) (k : Int) => (dI (k + 8 * l.length) : D)) x.1 x.2) (fun x => (fun (l : List TFind) (k : Int) => ([((0, 0), .arr false 8 yTFind (ML encTFind (mkL mk_TFind 8 k l.length)))] : List (Nm × OO))) x.1 x.2)
@[simp] theorem c74_f : c74.f = 74 := rfl
@[simp] theorem c74_own : c74.own = true := rfl
theorem c74_inj : ∀ u_ v_ : (List TFind) × Int, ((fun x => (fun (l : List TFind) (k : Int) => ([.own (0, 0) 8 0 l.length, dI k] : List D)) x.1 x.2) u_).map nz = ((fun x => (fun (l : List TFind) (k : Int) => ([.own (0, 0) 8 0 l.length, dI k] : List D)) x.1 x.2) v_).map nz → (fun x => (fun (l : List TFind) (k : Int) => ([((0, 0), .arr false 8 yTFind (ML encTFind l))] : List (Nm × OO))) x.1 x.2) u_ = (fun x => (fun (l : List TFind) (k : Int) => ([((0, 0), .arr false 8 yTFind (ML encTFind l))] : List (Nm × OO))) x.1 x.2) v_ → u_ = v_ := by
  intro u_ v_ h h2_
  obtain ⟨l, k⟩ := u_
  obtain ⟨l', k'⟩ := v_
  simp [nz_lit, nz1_lit, nz_agg, nz_sl, nz1_sl, nz_sx, nz_el, nz1_el, nz_own, nz1_own, nz_ptr, nz_fn, nz_iface] at h h2_
  first | (simp [h, h2_]; done) | (obtain ⟨h3_, h4_⟩ := List.append_inj h2_ h.1; simp_all; done) | simp_all | grind
@[simp] theorem c74_fn (l : List TFind) (k : Int) : c74.fn ([.own (0, 0) 8 0 l.length, dI k]) ([((0, 0), .arr false 8 yTFind (ML encTFind l))]) = some (l.length ≤ 1099511627776 ∧ 0 ≤ k ∧ k ≤ 1152921504606846976, dI (k + 8 * l.length), [((0, 0), .arr false 8 yTFind (ML encTFind (mkL mk_TFind 8 k l.length)))]) :=
  mkCon_fn c74_inj ((l, k) : (List TFind) × Int) rfl rfl
theorem c74_pc (l : List TFind) (k : Int) (hpre : l.length ≤ 1099511627776 ∧ 0 ≤ k ∧ k ≤ 1152921504606846976) : PCo Try.prog 74 ([.own (0, 0) 8 0 l.length, dI k]) (Tab.of ([((0, 0), .arr false 8 yTFind (ML encTFind l))])) (dI (k + 8 * l.length)) (Tab.of ([((0, 0), .arr false 8 yTFind (ML encTFind (mkL mk_TFind 8 k l.length)))])) := by
  refine pco_of_run [] (E := ⟨[], []⟩) (m := false) (base := 0) Env.ok_nil G_ok mix 300 6 Try.func74 (by kernel_rfl) rfl (by kernel_rfl) (by kernel_rfl) rfl ?_
  simp [Try.f74]
  obtain ⟨pre1, pre2, pre3⟩ := hpre
  refine loop_inv (fun p : Nat => p ≤ l.length) (fun p => [(0, .own (0, 0) 8 0 l.length), (1, dI (k + 8 * p)), (5, dI p)]) (fun p => [((0, 0), .arr false 8 yTFind (ML encTFind (mkL mk_TFind 8 k p ++ l.drop p)))]) 2 (fun p => l.length - p) 0 100 (by simp) (by simp) (by simp) ?_
  intro p hp
  simp
  have hs : ∀ x, x = mk_TFind (k + 8 * (p : Int)) → p < l.length → mkL mk_TFind 8 k p ++ (l.drop p).set 0 x = mkL mk_TFind 8 k (p + 1) ++ l.drop (p + 1) := fun x hx hlt => mark_step0 hlt hx
  refine ⟨fun hlt => ?_, fun hge => ?_⟩
  · repeat' (first | omega | refine And.intro ?_ ?_ | intro _)
    all_goals refine Again.mk (p + 1) (by omega) ?_ (by first | omega | (simp; omega))
    all_goals (rw [hs _ (by simp [mark_get0 hlt, mark_get hlt]; first | done | omega) hlt]; simp; omega)
  have : p = l.length := by omega
  subst this
  simp
  trace_state
theorem c74_ok : c74.ok Try.prog := mkCon_ok fun ⟨l, k⟩ hpre => c74_pc l k hpre
end Go.Proofs.Ytmbgihklhmhilaa
