/- Contracts of the functions that the laws run. -/
import Derived.Test.Ytkccphdoolpmaaach04
import Derived.Test.YtkccphdoolpmaaaEngB
namespace Go.Proofs.Ytkccphdoolpmaaa
open Go Go.Eng
set_option linter.unusedSimpArgs false
set_option linter.unusedVariables false
set_option maxRecDepth 10000
set_option maxHeartbeats 1000000
def mIsFind (f : TFind) : Bool := mIsThing f.Thing && mIn f.Place 1 30 && mIn f.At 0 100000 && mIn f.Finder 0 999
/-- loop.example/g03007/laws.toFind -/
noncomputable def c26 : Con := mkCon 26 false (α := TFind) (fun x => (fun (a : TFind) => [encTFind a]) x) (fun _ => []) (fun x => (fun (a : TFind) => True) x) (fun x => (fun (a : TFind) => (encTFind a : D)) x) (fun x => (fun (a : TFind) => []) x)
@[simp] theorem c26_f : c26.f = 26 := rfl
@[simp] theorem c26_own : c26.own = false := rfl
theorem c26_inj : ∀ u_ v_ : TFind, ((fun x => (fun (a : TFind) => [encTFind a]) x) u_).map nz = ((fun x => (fun (a : TFind) => [encTFind a]) x) v_).map nz → u_ = v_ := by
  intro u_ v_ h
  obtain ⟨⟨a_Thing_Id, a_Thing_Kind, a_Thing_Colour, a_Thing_Size, a_Thing_Worth⟩, a_Place, a_At, a_Finder⟩ := u_
  obtain ⟨⟨a_Thing_Id', a_Thing_Kind', a_Thing_Colour', a_Thing_Size', a_Thing_Worth'⟩, a_Place', a_At', a_Finder'⟩ := v_
  simp [nz_lit, nz1_lit, nz_agg, nz_sl, nz1_sl, encTFind, encTThing] at h
  first | (simp [h]; done) | (obtain ⟨⟩ := h; simp_all; done) | simp_all
@[simp] theorem c26_fn (a_Thing_Id : Int) (a_Thing_Kind : Int) (a_Thing_Colour : Int) (a_Thing_Size : Int) (a_Thing_Worth : Int) (a_Place : Int) (a_At : Int) (a_Finder : Int) : c26.fn [.agg [.lit (.int .i64 a_Thing_Id), .lit (.int .i64 a_Thing_Kind), .lit (.int .i64 a_Thing_Colour), .lit (.int .i64 a_Thing_Size), .lit (.int .i64 a_Thing_Worth), .lit (.int .i64 a_Place), .lit (.int .i64 a_At), .lit (.int .i64 a_Finder)]] [] = some ((fun (a : TFind) => True) ⟨⟨a_Thing_Id, a_Thing_Kind, a_Thing_Colour, a_Thing_Size, a_Thing_Worth⟩, a_Place, a_At, a_Finder⟩, (fun (a : TFind) => (encTFind a : D)) ⟨⟨a_Thing_Id, a_Thing_Kind, a_Thing_Colour, a_Thing_Size, a_Thing_Worth⟩, a_Place, a_At, a_Finder⟩, (fun (a : TFind) => []) ⟨⟨a_Thing_Id, a_Thing_Kind, a_Thing_Colour, a_Thing_Size, a_Thing_Worth⟩, a_Place, a_At, a_Finder⟩) :=
  mkCon_fn (fun x y h _ => c26_inj x y h) (⟨⟨a_Thing_Id, a_Thing_Kind, a_Thing_Colour, a_Thing_Size, a_Thing_Worth⟩, a_Place, a_At, a_Finder⟩ : TFind) (by simp [nz, nz1, ML_nil, encTFind, encTThing]) rfl
theorem c26_pc (a : TFind) : PCo Try.prog 26 [encTFind a] (Tab.of []) (encTFind a) (Tab.of []) := by
  obtain ⟨⟨a_Thing_Id, a_Thing_Kind, a_Thing_Colour, a_Thing_Size, a_Thing_Worth⟩, a_Place, a_At, a_Finder⟩ := a
  refine pco_of_run [] (E := ⟨[c86], []⟩) (m := false) (base := 0) (Env.ok_cons c86_ok Env.ok_nil) G_ok mix 300 6 Try.func26 (by kernel_rfl) rfl (by kernel_rfl) (by kernel_rfl) rfl ?_
  simp [Try.f26]
  all_goals first | omega | (rw [Bool.eq_iff_iff]; simp; omega) | grind
theorem c26_ok : c26.ok Try.prog := mkCon_ok fun a hpre => c26_pc a
/-- loop.example/g03007/laws.eqFind -/
noncomputable def c92 : Con := mkCon 92 false (α := TFind × TFind) (fun x => (fun (a : TFind) (b : TFind) => [encTFind a, encTFind b]) x.1 x.2) (fun _ => []) (fun x => (fun (a : TFind) (b : TFind) => True) x.1 x.2) (fun x => (fun (a : TFind) (b : TFind) => (dB (decide (a = b)) : D)) x.1 x.2) (fun x => (fun (a : TFind) (b : TFind) => []) x.1 x.2)
@[simp] theorem c92_f : c92.f = 92 := rfl
@[simp] theorem c92_own : c92.own = false := rfl
theorem c92_inj : ∀ u_ v_ : TFind × TFind, ((fun x => (fun (a : TFind) (b : TFind) => [encTFind a, encTFind b]) x.1 x.2) u_).map nz = ((fun x => (fun (a : TFind) (b : TFind) => [encTFind a, encTFind b]) x.1 x.2) v_).map nz → u_ = v_ := by
  intro u_ v_ h
  obtain ⟨⟨⟨a_Thing_Id, a_Thing_Kind, a_Thing_Colour, a_Thing_Size, a_Thing_Worth⟩, a_Place, a_At, a_Finder⟩, ⟨⟨b_Thing_Id, b_Thing_Kind, b_Thing_Colour, b_Thing_Size, b_Thing_Worth⟩, b_Place, b_At, b_Finder⟩⟩ := u_
  obtain ⟨⟨⟨a_Thing_Id', a_Thing_Kind', a_Thing_Colour', a_Thing_Size', a_Thing_Worth'⟩, a_Place', a_At', a_Finder'⟩, ⟨⟨b_Thing_Id', b_Thing_Kind', b_Thing_Colour', b_Thing_Size', b_Thing_Worth'⟩, b_Place', b_At', b_Finder'⟩⟩ := v_
  simp [nz_lit, nz1_lit, nz_agg, nz_sl, nz1_sl, encTFind, encTThing] at h
  first | (simp [h]; done) | (obtain ⟨⟩ := h; simp_all; done) | simp_all
@[simp] theorem c92_fn (a_Thing_Id : Int) (a_Thing_Kind : Int) (a_Thing_Colour : Int) (a_Thing_Size : Int) (a_Thing_Worth : Int) (a_Place : Int) (a_At : Int) (a_Finder : Int) (b_Thing_Id : Int) (b_Thing_Kind : Int) (b_Thing_Colour : Int) (b_Thing_Size : Int) (b_Thing_Worth : Int) (b_Place : Int) (b_At : Int) (b_Finder : Int) : c92.fn [.agg [.lit (.int .i64 a_Thing_Id), .lit (.int .i64 a_Thing_Kind), .lit (.int .i64 a_Thing_Colour), .lit (.int .i64 a_Thing_Size), .lit (.int .i64 a_Thing_Worth), .lit (.int .i64 a_Place), .lit (.int .i64 a_At), .lit (.int .i64 a_Finder)], .agg [.lit (.int .i64 b_Thing_Id), .lit (.int .i64 b_Thing_Kind), .lit (.int .i64 b_Thing_Colour), .lit (.int .i64 b_Thing_Size), .lit (.int .i64 b_Thing_Worth), .lit (.int .i64 b_Place), .lit (.int .i64 b_At), .lit (.int .i64 b_Finder)]] [] = some ((fun (a : TFind) (b : TFind) => True) ⟨⟨a_Thing_Id, a_Thing_Kind, a_Thing_Colour, a_Thing_Size, a_Thing_Worth⟩, a_Place, a_At, a_Finder⟩ ⟨⟨b_Thing_Id, b_Thing_Kind, b_Thing_Colour, b_Thing_Size, b_Thing_Worth⟩, b_Place, b_At, b_Finder⟩, (fun (a : TFind) (b : TFind) => (dB (decide (a = b)) : D)) ⟨⟨a_Thing_Id, a_Thing_Kind, a_Thing_Colour, a_Thing_Size, a_Thing_Worth⟩, a_Place, a_At, a_Finder⟩ ⟨⟨b_Thing_Id, b_Thing_Kind, b_Thing_Colour, b_Thing_Size, b_Thing_Worth⟩, b_Place, b_At, b_Finder⟩, (fun (a : TFind) (b : TFind) => []) ⟨⟨a_Thing_Id, a_Thing_Kind, a_Thing_Colour, a_Thing_Size, a_Thing_Worth⟩, a_Place, a_At, a_Finder⟩ ⟨⟨b_Thing_Id, b_Thing_Kind, b_Thing_Colour, b_Thing_Size, b_Thing_Worth⟩, b_Place, b_At, b_Finder⟩) :=
  mkCon_fn (fun x y h _ => c92_inj x y h) ((⟨⟨a_Thing_Id, a_Thing_Kind, a_Thing_Colour, a_Thing_Size, a_Thing_Worth⟩, a_Place, a_At, a_Finder⟩, ⟨⟨b_Thing_Id, b_Thing_Kind, b_Thing_Colour, b_Thing_Size, b_Thing_Worth⟩, b_Place, b_At, b_Finder⟩) : TFind × TFind) (by simp [nz, nz1, ML_nil, encTFind, encTThing]) rfl
theorem c92_pc (a : TFind) (b : TFind) : PCo Try.prog 92 [encTFind a, encTFind b] (Tab.of []) (dB (decide (a = b))) (Tab.of []) := by
  obtain ⟨⟨a_Thing_Id, a_Thing_Kind, a_Thing_Colour, a_Thing_Size, a_Thing_Worth⟩, a_Place, a_At, a_Finder⟩ := a
  obtain ⟨⟨b_Thing_Id, b_Thing_Kind, b_Thing_Colour, b_Thing_Size, b_Thing_Worth⟩, b_Place, b_At, b_Finder⟩ := b
  refine pco_of_run [] (E := ⟨[c136], []⟩) (m := false) (base := 0) (Env.ok_cons c136_ok Env.ok_nil) G_ok mix 300 6 Try.func92 (by kernel_rfl) rfl (by kernel_rfl) (by kernel_rfl) rfl ?_
  simp [Try.f92]
  all_goals first | omega | (rw [Bool.eq_iff_iff]; simp; omega) | grind
theorem c92_ok : c92.ok Try.prog := mkCon_ok fun ⟨a, b⟩ hpre => c92_pc a b
/-- loop.example/g03007/spec.IsFind -/
noncomputable def c129 : Con := mkCon 129 false (α := TFind) (fun x => (fun (f : TFind) => [encTFind f]) x) (fun _ => []) (fun x => (fun (f : TFind) => True) x) (fun x => (fun (f : TFind) => (dB (mIsFind f) : D)) x) (fun x => (fun (f : TFind) => []) x)
@[simp] theorem c129_f : c129.f = 129 := rfl
@[simp] theorem c129_own : c129.own = false := rfl
theorem c129_inj : ∀ u_ v_ : TFind, ((fun x => (fun (f : TFind) => [encTFind f]) x) u_).map nz = ((fun x => (fun (f : TFind) => [encTFind f]) x) v_).map nz → u_ = v_ := by
  intro u_ v_ h
  obtain ⟨⟨f_Thing_Id, f_Thing_Kind, f_Thing_Colour, f_Thing_Size, f_Thing_Worth⟩, f_Place, f_At, f_Finder⟩ := u_
  obtain ⟨⟨f_Thing_Id', f_Thing_Kind', f_Thing_Colour', f_Thing_Size', f_Thing_Worth'⟩, f_Place', f_At', f_Finder'⟩ := v_
  simp [nz_lit, nz1_lit, nz_agg, nz_sl, nz1_sl, encTFind, encTThing] at h
  first | (simp [h]; done) | (obtain ⟨⟩ := h; simp_all; done) | simp_all
@[simp] theorem c129_fn (f_Thing_Id : Int) (f_Thing_Kind : Int) (f_Thing_Colour : Int) (f_Thing_Size : Int) (f_Thing_Worth : Int) (f_Place : Int) (f_At : Int) (f_Finder : Int) : c129.fn [.agg [.lit (.int .i64 f_Thing_Id), .lit (.int .i64 f_Thing_Kind), .lit (.int .i64 f_Thing_Colour), .lit (.int .i64 f_Thing_Size), .lit (.int .i64 f_Thing_Worth), .lit (.int .i64 f_Place), .lit (.int .i64 f_At), .lit (.int .i64 f_Finder)]] [] = some ((fun (f : TFind) => True) ⟨⟨f_Thing_Id, f_Thing_Kind, f_Thing_Colour, f_Thing_Size, f_Thing_Worth⟩, f_Place, f_At, f_Finder⟩, (fun (f : TFind) => (dB (mIsFind f) : D)) ⟨⟨f_Thing_Id, f_Thing_Kind, f_Thing_Colour, f_Thing_Size, f_Thing_Worth⟩, f_Place, f_At, f_Finder⟩, (fun (f : TFind) => []) ⟨⟨f_Thing_Id, f_Thing_Kind, f_Thing_Colour, f_Thing_Size, f_Thing_Worth⟩, f_Place, f_At, f_Finder⟩) :=
  mkCon_fn (fun x y h _ => c129_inj x y h) (⟨⟨f_Thing_Id, f_Thing_Kind, f_Thing_Colour, f_Thing_Size, f_Thing_Worth⟩, f_Place, f_At, f_Finder⟩ : TFind) (by simp [nz, nz1, ML_nil, encTFind, encTThing]) rfl
theorem c129_pc (f : TFind) : PCo Try.prog 129 [encTFind f] (Tab.of []) (dB (mIsFind f)) (Tab.of []) := by
  obtain ⟨⟨f_Thing_Id, f_Thing_Kind, f_Thing_Colour, f_Thing_Size, f_Thing_Worth⟩, f_Place, f_At, f_Finder⟩ := f
  refine pco_of_run [] (E := ⟨[c116, c152], []⟩) (m := false) (base := 0) (Env.ok_cons c116_ok (Env.ok_cons c152_ok Env.ok_nil)) G_ok mix 300 6 Try.func129 (by kernel_rfl) rfl (by kernel_rfl) (by kernel_rfl) rfl ?_
  simp [Try.f129]
  simp [mIsFind]
theorem c129_ok : c129.ok Try.prog := mkCon_ok fun f hpre => c129_pc f
/-- loop.example/g03007/impl.findChecks$1 -/
noncomputable def c158 : Con := mkCon 158 false (α := TFind) (fun x => (fun (f : TFind) => [encTFind f]) x) (fun _ => []) (fun x => (fun (f : TFind) => True) x) (fun x => (fun (f : TFind) => (dB (mIsThing f.Thing) : D)) x) (fun x => (fun (f : TFind) => []) x)
@[simp] theorem c158_f : c158.f = 158 := rfl
@[simp] theorem c158_own : c158.own = false := rfl
theorem c158_inj : ∀ u_ v_ : TFind, ((fun x => (fun (f : TFind) => [encTFind f]) x) u_).map nz = ((fun x => (fun (f : TFind) => [encTFind f]) x) v_).map nz → u_ = v_ := by
  intro u_ v_ h
  obtain ⟨⟨f_Thing_Id, f_Thing_Kind, f_Thing_Colour, f_Thing_Size, f_Thing_Worth⟩, f_Place, f_At, f_Finder⟩ := u_
  obtain ⟨⟨f_Thing_Id', f_Thing_Kind', f_Thing_Colour', f_Thing_Size', f_Thing_Worth'⟩, f_Place', f_At', f_Finder'⟩ := v_
  simp [nz_lit, nz1_lit, nz_agg, nz_sl, nz1_sl, encTFind, encTThing] at h
  first | (simp [h]; done) | (obtain ⟨⟩ := h; simp_all; done) | simp_all
@[simp] theorem c158_fn (f_Thing_Id : Int) (f_Thing_Kind : Int) (f_Thing_Colour : Int) (f_Thing_Size : Int) (f_Thing_Worth : Int) (f_Place : Int) (f_At : Int) (f_Finder : Int) : c158.fn [.agg [.lit (.int .i64 f_Thing_Id), .lit (.int .i64 f_Thing_Kind), .lit (.int .i64 f_Thing_Colour), .lit (.int .i64 f_Thing_Size), .lit (.int .i64 f_Thing_Worth), .lit (.int .i64 f_Place), .lit (.int .i64 f_At), .lit (.int .i64 f_Finder)]] [] = some ((fun (f : TFind) => True) ⟨⟨f_Thing_Id, f_Thing_Kind, f_Thing_Colour, f_Thing_Size, f_Thing_Worth⟩, f_Place, f_At, f_Finder⟩, (fun (f : TFind) => (dB (mIsThing f.Thing) : D)) ⟨⟨f_Thing_Id, f_Thing_Kind, f_Thing_Colour, f_Thing_Size, f_Thing_Worth⟩, f_Place, f_At, f_Finder⟩, (fun (f : TFind) => []) ⟨⟨f_Thing_Id, f_Thing_Kind, f_Thing_Colour, f_Thing_Size, f_Thing_Worth⟩, f_Place, f_At, f_Finder⟩) :=
  mkCon_fn (fun x y h _ => c158_inj x y h) (⟨⟨f_Thing_Id, f_Thing_Kind, f_Thing_Colour, f_Thing_Size, f_Thing_Worth⟩, f_Place, f_At, f_Finder⟩ : TFind) (by simp [nz, nz1, ML_nil, encTFind, encTThing]) rfl
theorem c158_pc (f : TFind) : PCo Try.prog 158 [encTFind f] (Tab.of []) (dB (mIsThing f.Thing)) (Tab.of []) := by
  obtain ⟨⟨f_Thing_Id, f_Thing_Kind, f_Thing_Colour, f_Thing_Size, f_Thing_Worth⟩, f_Place, f_At, f_Finder⟩ := f
  refine pco_of_run [] (E := ⟨[c159], []⟩) (m := false) (base := 0) (Env.ok_cons c159_ok Env.ok_nil) G_ok mix 300 6 Try.func158 (by kernel_rfl) rfl (by kernel_rfl) (by kernel_rfl) rfl ?_
  simp [Try.f158]
  all_goals first | omega | (rw [Bool.eq_iff_iff]; simp; omega) | grind
theorem c158_ok : c158.ok Try.prog := mkCon_ok fun f hpre => c158_pc f
/-- loop.example/g03007/impl.findChecks$2 -/
noncomputable def c160 : Con := mkCon 160 false (α := TFind) (fun x => (fun (f : TFind) => [encTFind f]) x) (fun _ => []) (fun x => (fun (f : TFind) => True) x) (fun x => (fun (f : TFind) => (dB (mIn f.Place 1 30) : D)) x) (fun x => (fun (f : TFind) => []) x)
@[simp] theorem c160_f : c160.f = 160 := rfl
@[simp] theorem c160_own : c160.own = false := rfl
theorem c160_inj : ∀ u_ v_ : TFind, ((fun x => (fun (f : TFind) => [encTFind f]) x) u_).map nz = ((fun x => (fun (f : TFind) => [encTFind f]) x) v_).map nz → u_ = v_ := by
  intro u_ v_ h
  obtain ⟨⟨f_Thing_Id, f_Thing_Kind, f_Thing_Colour, f_Thing_Size, f_Thing_Worth⟩, f_Place, f_At, f_Finder⟩ := u_
  obtain ⟨⟨f_Thing_Id', f_Thing_Kind', f_Thing_Colour', f_Thing_Size', f_Thing_Worth'⟩, f_Place', f_At', f_Finder'⟩ := v_
  simp [nz_lit, nz1_lit, nz_agg, nz_sl, nz1_sl, encTFind, encTThing] at h
  first | (simp [h]; done) | (obtain ⟨⟩ := h; simp_all; done) | simp_all
@[simp] theorem c160_fn (f_Thing_Id : Int) (f_Thing_Kind : Int) (f_Thing_Colour : Int) (f_Thing_Size : Int) (f_Thing_Worth : Int) (f_Place : Int) (f_At : Int) (f_Finder : Int) : c160.fn [.agg [.lit (.int .i64 f_Thing_Id), .lit (.int .i64 f_Thing_Kind), .lit (.int .i64 f_Thing_Colour), .lit (.int .i64 f_Thing_Size), .lit (.int .i64 f_Thing_Worth), .lit (.int .i64 f_Place), .lit (.int .i64 f_At), .lit (.int .i64 f_Finder)]] [] = some ((fun (f : TFind) => True) ⟨⟨f_Thing_Id, f_Thing_Kind, f_Thing_Colour, f_Thing_Size, f_Thing_Worth⟩, f_Place, f_At, f_Finder⟩, (fun (f : TFind) => (dB (mIn f.Place 1 30) : D)) ⟨⟨f_Thing_Id, f_Thing_Kind, f_Thing_Colour, f_Thing_Size, f_Thing_Worth⟩, f_Place, f_At, f_Finder⟩, (fun (f : TFind) => []) ⟨⟨f_Thing_Id, f_Thing_Kind, f_Thing_Colour, f_Thing_Size, f_Thing_Worth⟩, f_Place, f_At, f_Finder⟩) :=
  mkCon_fn (fun x y h _ => c160_inj x y h) (⟨⟨f_Thing_Id, f_Thing_Kind, f_Thing_Colour, f_Thing_Size, f_Thing_Worth⟩, f_Place, f_At, f_Finder⟩ : TFind) (by simp [nz, nz1, ML_nil, encTFind, encTThing]) rfl
theorem c160_pc (f : TFind) : PCo Try.prog 160 [encTFind f] (Tab.of []) (dB (mIn f.Place 1 30)) (Tab.of []) := by
  obtain ⟨⟨f_Thing_Id, f_Thing_Kind, f_Thing_Colour, f_Thing_Size, f_Thing_Worth⟩, f_Place, f_At, f_Finder⟩ := f
  refine pco_of_run [] (E := ⟨[c117], []⟩) (m := false) (base := 0) (Env.ok_cons c117_ok Env.ok_nil) G_ok mix 300 6 Try.func160 (by kernel_rfl) rfl (by kernel_rfl) (by kernel_rfl) rfl ?_
  simp [Try.f160]
  all_goals first | omega | (rw [Bool.eq_iff_iff]; simp; omega) | grind
theorem c160_ok : c160.ok Try.prog := mkCon_ok fun f hpre => c160_pc f
/-- loop.example/g03007/impl.findChecks$3 -/
noncomputable def c161 : Con := mkCon 161 false (α := TFind) (fun x => (fun (f : TFind) => [encTFind f]) x) (fun _ => []) (fun x => (fun (f : TFind) => True) x) (fun x => (fun (f : TFind) => (dB (mIn f.At 0 100000) : D)) x) (fun x => (fun (f : TFind) => []) x)
@[simp] theorem c161_f : c161.f = 161 := rfl
@[simp] theorem c161_own : c161.own = false := rfl
theorem c161_inj : ∀ u_ v_ : TFind, ((fun x => (fun (f : TFind) => [encTFind f]) x) u_).map nz = ((fun x => (fun (f : TFind) => [encTFind f]) x) v_).map nz → u_ = v_ := by
  intro u_ v_ h
  obtain ⟨⟨f_Thing_Id, f_Thing_Kind, f_Thing_Colour, f_Thing_Size, f_Thing_Worth⟩, f_Place, f_At, f_Finder⟩ := u_
  obtain ⟨⟨f_Thing_Id', f_Thing_Kind', f_Thing_Colour', f_Thing_Size', f_Thing_Worth'⟩, f_Place', f_At', f_Finder'⟩ := v_
  simp [nz_lit, nz1_lit, nz_agg, nz_sl, nz1_sl, encTFind, encTThing] at h
  first | (simp [h]; done) | (obtain ⟨⟩ := h; simp_all; done) | simp_all
@[simp] theorem c161_fn (f_Thing_Id : Int) (f_Thing_Kind : Int) (f_Thing_Colour : Int) (f_Thing_Size : Int) (f_Thing_Worth : Int) (f_Place : Int) (f_At : Int) (f_Finder : Int) : c161.fn [.agg [.lit (.int .i64 f_Thing_Id), .lit (.int .i64 f_Thing_Kind), .lit (.int .i64 f_Thing_Colour), .lit (.int .i64 f_Thing_Size), .lit (.int .i64 f_Thing_Worth), .lit (.int .i64 f_Place), .lit (.int .i64 f_At), .lit (.int .i64 f_Finder)]] [] = some ((fun (f : TFind) => True) ⟨⟨f_Thing_Id, f_Thing_Kind, f_Thing_Colour, f_Thing_Size, f_Thing_Worth⟩, f_Place, f_At, f_Finder⟩, (fun (f : TFind) => (dB (mIn f.At 0 100000) : D)) ⟨⟨f_Thing_Id, f_Thing_Kind, f_Thing_Colour, f_Thing_Size, f_Thing_Worth⟩, f_Place, f_At, f_Finder⟩, (fun (f : TFind) => []) ⟨⟨f_Thing_Id, f_Thing_Kind, f_Thing_Colour, f_Thing_Size, f_Thing_Worth⟩, f_Place, f_At, f_Finder⟩) :=
  mkCon_fn (fun x y h _ => c161_inj x y h) (⟨⟨f_Thing_Id, f_Thing_Kind, f_Thing_Colour, f_Thing_Size, f_Thing_Worth⟩, f_Place, f_At, f_Finder⟩ : TFind) (by simp [nz, nz1, ML_nil, encTFind, encTThing]) rfl
theorem c161_pc (f : TFind) : PCo Try.prog 161 [encTFind f] (Tab.of []) (dB (mIn f.At 0 100000)) (Tab.of []) := by
  obtain ⟨⟨f_Thing_Id, f_Thing_Kind, f_Thing_Colour, f_Thing_Size, f_Thing_Worth⟩, f_Place, f_At, f_Finder⟩ := f
  refine pco_of_run [] (E := ⟨[c117], []⟩) (m := false) (base := 0) (Env.ok_cons c117_ok Env.ok_nil) G_ok mix 300 6 Try.func161 (by kernel_rfl) rfl (by kernel_rfl) (by kernel_rfl) rfl ?_
  simp [Try.f161]
  all_goals first | omega | (rw [Bool.eq_iff_iff]; simp; omega) | grind
theorem c161_ok : c161.ok Try.prog := mkCon_ok fun f hpre => c161_pc f
/-- loop.example/g03007/impl.findChecks$4 -/
noncomputable def c162 : Con := mkCon 162 false (α := TFind) (fun x => (fun (f : TFind) => [encTFind f]) x) (fun _ => []) (fun x => (fun (f : TFind) => True) x) (fun x => (fun (f : TFind) => (dB (mIn f.Finder 0 999) : D)) x) (fun x => (fun (f : TFind) => []) x)
@[simp] theorem c162_f : c162.f = 162 := rfl
@[simp] theorem c162_own : c162.own = false := rfl
theorem c162_inj : ∀ u_ v_ : TFind, ((fun x => (fun (f : TFind) => [encTFind f]) x) u_).map nz = ((fun x => (fun (f : TFind) => [encTFind f]) x) v_).map nz → u_ = v_ := by
  intro u_ v_ h
  obtain ⟨⟨f_Thing_Id, f_Thing_Kind, f_Thing_Colour, f_Thing_Size, f_Thing_Worth⟩, f_Place, f_At, f_Finder⟩ := u_
  obtain ⟨⟨f_Thing_Id', f_Thing_Kind', f_Thing_Colour', f_Thing_Size', f_Thing_Worth'⟩, f_Place', f_At', f_Finder'⟩ := v_
  simp [nz_lit, nz1_lit, nz_agg, nz_sl, nz1_sl, encTFind, encTThing] at h
  first | (simp [h]; done) | (obtain ⟨⟩ := h; simp_all; done) | simp_all
@[simp] theorem c162_fn (f_Thing_Id : Int) (f_Thing_Kind : Int) (f_Thing_Colour : Int) (f_Thing_Size : Int) (f_Thing_Worth : Int) (f_Place : Int) (f_At : Int) (f_Finder : Int) : c162.fn [.agg [.lit (.int .i64 f_Thing_Id), .lit (.int .i64 f_Thing_Kind), .lit (.int .i64 f_Thing_Colour), .lit (.int .i64 f_Thing_Size), .lit (.int .i64 f_Thing_Worth), .lit (.int .i64 f_Place), .lit (.int .i64 f_At), .lit (.int .i64 f_Finder)]] [] = some ((fun (f : TFind) => True) ⟨⟨f_Thing_Id, f_Thing_Kind, f_Thing_Colour, f_Thing_Size, f_Thing_Worth⟩, f_Place, f_At, f_Finder⟩, (fun (f : TFind) => (dB (mIn f.Finder 0 999) : D)) ⟨⟨f_Thing_Id, f_Thing_Kind, f_Thing_Colour, f_Thing_Size, f_Thing_Worth⟩, f_Place, f_At, f_Finder⟩, (fun (f : TFind) => []) ⟨⟨f_Thing_Id, f_Thing_Kind, f_Thing_Colour, f_Thing_Size, f_Thing_Worth⟩, f_Place, f_At, f_Finder⟩) :=
  mkCon_fn (fun x y h _ => c162_inj x y h) (⟨⟨f_Thing_Id, f_Thing_Kind, f_Thing_Colour, f_Thing_Size, f_Thing_Worth⟩, f_Place, f_At, f_Finder⟩ : TFind) (by simp [nz, nz1, ML_nil, encTFind, encTThing]) rfl
theorem c162_pc (f : TFind) : PCo Try.prog 162 [encTFind f] (Tab.of []) (dB (mIn f.Finder 0 999)) (Tab.of []) := by
  obtain ⟨⟨f_Thing_Id, f_Thing_Kind, f_Thing_Colour, f_Thing_Size, f_Thing_Worth⟩, f_Place, f_At, f_Finder⟩ := f
  refine pco_of_run [] (E := ⟨[c117], []⟩) (m := false) (base := 0) (Env.ok_cons c117_ok Env.ok_nil) G_ok mix 300 6 Try.func162 (by kernel_rfl) rfl (by kernel_rfl) (by kernel_rfl) rfl ?_
  simp [Try.f162]
  all_goals first | omega | (rw [Bool.eq_iff_iff]; simp; omega) | grind
theorem c162_ok : c162.ok Try.prog := mkCon_ok fun f hpre => c162_pc f
/-- loop.example/g03007/impl.findChecks -/
noncomputable def c154 : Con := mkCon 154 false (α := Unit) (fun _ => []) (fun _ => []) (fun _ => True) (fun _ => (.agg [.fn (.func 158) [] [], .fn (.func 160) [] [], .fn (.func 161) [] [], .fn (.func 162) [] []] : D)) (fun _ => [])
@[simp] theorem c154_f : c154.f = 154 := rfl
@[simp] theorem c154_own : c154.own = false := rfl
theorem c154_inj : ∀ x y : Unit, ((fun _ => []) x).map nz = ((fun _ => []) y).map nz → x = y := fun _ _ _ => rfl
@[simp] theorem c154_fn : c154.fn [] [] = some (True, (.agg [.fn (.func 158) [] [], .fn (.func 160) [] [], .fn (.func 161) [] [], .fn (.func 162) [] []] : D), []) :=
  mkCon_fn (fun x y h _ => c154_inj x y h) (() : Unit) (by simp [nz, nz1, ML_nil]) rfl
theorem c154_pc  : PCo Try.prog 154 [] (Tab.of []) (.agg [.fn (.func 158) [] [], .fn (.func 160) [] [], .fn (.func 161) [] [], .fn (.func 162) [] []]) (Tab.of []) := by
  refine pco_of_run [] (E := ⟨[c158, c160, c161, c162], []⟩) (m := false) (base := 0) (Env.ok_cons c158_ok (Env.ok_cons c160_ok (Env.ok_cons c161_ok (Env.ok_cons c162_ok Env.ok_nil)))) G_ok mix 300 6 Try.func154 (by kernel_rfl) rfl (by kernel_rfl) (by kernel_rfl) rfl ?_
  simp [Try.f154]
  all_goals first | omega | (rw [Bool.eq_iff_iff]; simp; omega) | grind
theorem c154_ok : c154.ok Try.prog := mkCon_ok fun _ hpre => c154_pc 
/-- loop.example/g03007/impl.IsFind -/
noncomputable def c135 : Con := mkCon 135 false (α := TFind) (fun x => (fun (f : TFind) => [encTFind f]) x) (fun _ => []) (fun x => (fun (f : TFind) => True) x) (fun x => (fun (f : TFind) => (dB (mIsFind f) : D)) x) (fun x => (fun (f : TFind) => []) x)
@[simp] theorem c135_f : c135.f = 135 := rfl
@[simp] theorem c135_own : c135.own = false := rfl
theorem c135_inj : ∀ u_ v_ : TFind, ((fun x => (fun (f : TFind) => [encTFind f]) x) u_).map nz = ((fun x => (fun (f : TFind) => [encTFind f]) x) v_).map nz → u_ = v_ := by
  intro u_ v_ h
  obtain ⟨⟨f_Thing_Id, f_Thing_Kind, f_Thing_Colour, f_Thing_Size, f_Thing_Worth⟩, f_Place, f_At, f_Finder⟩ := u_
  obtain ⟨⟨f_Thing_Id', f_Thing_Kind', f_Thing_Colour', f_Thing_Size', f_Thing_Worth'⟩, f_Place', f_At', f_Finder'⟩ := v_
  simp [nz_lit, nz1_lit, nz_agg, nz_sl, nz1_sl, encTFind, encTThing] at h
  first | (simp [h]; done) | (obtain ⟨⟩ := h; simp_all; done) | simp_all
@[simp] theorem c135_fn (f_Thing_Id : Int) (f_Thing_Kind : Int) (f_Thing_Colour : Int) (f_Thing_Size : Int) (f_Thing_Worth : Int) (f_Place : Int) (f_At : Int) (f_Finder : Int) : c135.fn [.agg [.lit (.int .i64 f_Thing_Id), .lit (.int .i64 f_Thing_Kind), .lit (.int .i64 f_Thing_Colour), .lit (.int .i64 f_Thing_Size), .lit (.int .i64 f_Thing_Worth), .lit (.int .i64 f_Place), .lit (.int .i64 f_At), .lit (.int .i64 f_Finder)]] [] = some ((fun (f : TFind) => True) ⟨⟨f_Thing_Id, f_Thing_Kind, f_Thing_Colour, f_Thing_Size, f_Thing_Worth⟩, f_Place, f_At, f_Finder⟩, (fun (f : TFind) => (dB (mIsFind f) : D)) ⟨⟨f_Thing_Id, f_Thing_Kind, f_Thing_Colour, f_Thing_Size, f_Thing_Worth⟩, f_Place, f_At, f_Finder⟩, (fun (f : TFind) => []) ⟨⟨f_Thing_Id, f_Thing_Kind, f_Thing_Colour, f_Thing_Size, f_Thing_Worth⟩, f_Place, f_At, f_Finder⟩) :=
  mkCon_fn (fun x y h _ => c135_inj x y h) (⟨⟨f_Thing_Id, f_Thing_Kind, f_Thing_Colour, f_Thing_Size, f_Thing_Worth⟩, f_Place, f_At, f_Finder⟩ : TFind) (by simp [nz, nz1, ML_nil, encTFind, encTThing]) rfl
theorem c135_pc (f : TFind) : PCo Try.prog 135 [encTFind f] (Tab.of []) (dB (mIsFind f)) (Tab.of []) := by
  obtain ⟨⟨f_Thing_Id, f_Thing_Kind, f_Thing_Colour, f_Thing_Size, f_Thing_Worth⟩, f_Place, f_At, f_Finder⟩ := f
  refine pco_of_run [] (E := ⟨[c154, c158, c160, c161, c162], []⟩) (m := false) (base := 0) (Env.ok_cons c154_ok (Env.ok_cons c158_ok (Env.ok_cons c160_ok (Env.ok_cons c161_ok (Env.ok_cons c162_ok Env.ok_nil))))) G_ok mix 300 6 Try.func135 (by kernel_rfl) rfl (by kernel_rfl) (by kernel_rfl) rfl ?_
  simp [Try.f135]
  refine loop_unroll 400 ?_
  simp [mIsFind]
  grind
theorem c135_ok : c135.ok Try.prog := mkCon_ok fun f hpre => c135_pc f
@[simp] def nFind (f : TFind) : Int := f.Thing.Id
def mAreFinds (l : List TFind) : Bool := decide (l.length ≤ 20) && ascBy mIsFind nFind none l
/-- loop.example/g03007/spec.AreFinds -/
noncomputable def c85 : Con := mkCon 85 false (α := (List TFind)) (fun x => (fun (l : List TFind) => [encLTFind l]) x) (fun _ => []) (fun x => (fun (l : List TFind) => l.length ≤ 1099511627776) x) (fun x => (fun (l : List TFind) => (dB (mAreFinds l) : D)) x) (fun x => (fun (l : List TFind) => []) x)
@[simp] theorem c85_f : c85.f = 85 := rfl
@[simp] theorem c85_own : c85.own = false := rfl
theorem c85_inj : ∀ u_ v_ : (List TFind), ((fun x => (fun (l : List TFind) => [encLTFind l]) x) u_).map nz = ((fun x => (fun (l : List TFind) => [encLTFind l]) x) v_).map nz → u_ = v_ := by
  intro u_ v_ h
  obtain l := u_
  obtain l' := v_
  simp [nz_lit, nz1_lit, nz_agg, nz_sl, nz1_sl, encLTFind] at h
  first | (simp [h]; done) | (obtain ⟨⟩ := h; simp_all; done) | simp_all
@[simp] theorem c85_fn (l : List TFind) : c85.fn [.sl false 8 yTFind (ML encTFind l)] [] = some ((fun (l : List TFind) => l.length ≤ 1099511627776) l, (fun (l : List TFind) => (dB (mAreFinds l) : D)) l, (fun (l : List TFind) => []) l) :=
  mkCon_fn (fun x y h _ => c85_inj x y h) (l : (List TFind)) (by simp [nz, nz1, ML_nil, encLTFind]) rfl
@[simp] theorem c85_fn1 (s_l : Nat) (z_l : D) : c85.fn [.sl false s_l z_l []] [] = some ((fun (l : List TFind) => l.length ≤ 1099511627776) [], (fun (l : List TFind) => (dB (mAreFinds l) : D)) [], (fun (l : List TFind) => []) []) :=
  mkCon_fn (fun x y h _ => c85_inj x y h) ([] : (List TFind)) (by simp [nz, nz1, ML_nil, encLTFind]) rfl
theorem c85_pc (l : List TFind) (hpre : l.length ≤ 1099511627776) : PCo Try.prog 85 [encLTFind l] (Tab.of []) (dB (mAreFinds l)) (Tab.of []) := by
  refine pco_of_run [] (E := ⟨[c129], []⟩) (m := false) (base := 0) (Env.ok_cons c129_ok Env.ok_nil) G_ok mix 300 6 Try.func85 (by kernel_rfl) rfl (by kernel_rfl) (by kernel_rfl) rfl ?_
  simp [Try.f85]
  refine loop_inv (fun p : Nat => p ≤ l.length ∧ ascBy mIsFind nFind none l = ascBy mIsFind nFind (prevO nFind l p) (l.drop p)) (fun p => [(0, encLTFind l), (2, dB false), (3, dI p)]) (fun _ => []) 1 (fun p => l.length - p) 0 400 (by simp) (by simp) (by simp) ?_
  intro p ⟨hp, hi⟩
  simp
  refine ⟨fun hlt => ?_, fun hge => ?_⟩
  · rw [ascBy_at hlt] at hi; simp only [nFind, wantN] at hi
    refine ⟨by repeat' (first | omega | refine And.intro ?_ ?_ | intro _), fun h => ?_, fun h1 h2 => ⟨by omega, Again.mk (p + 1) ⟨by omega, ?_⟩ (by simp) (by first | omega | (simp; omega))⟩⟩
    · rw [mAreFinds, hi]; grind
    · rw [hi]; grind
  · rw [mAreFinds, hi, ascBy_end hge]; simp; omega
theorem c85_ok : c85.ok Try.prog := mkCon_ok fun l hpre => c85_pc l hpre
/-- loop.example/g03007/impl.findsInOrder -/
noncomputable def c89 : Con := mkCon 89 false (α := (List TFind)) (fun x => (fun (l : List TFind) => [encLTFind l]) x) (fun _ => []) (fun x => (fun (l : List TFind) => True) x) (fun x => (fun (l : List TFind) => (.agg [.sl false 8 yTFind (ML encTFind l), .fn (.func 131) [] []] : D)) x) (fun x => (fun (l : List TFind) => []) x)
@[simp] theorem c89_f : c89.f = 89 := rfl
@[simp] theorem c89_own : c89.own = false := rfl
theorem c89_inj : ∀ u_ v_ : (List TFind), ((fun x => (fun (l : List TFind) => [encLTFind l]) x) u_).map nz = ((fun x => (fun (l : List TFind) => [encLTFind l]) x) v_).map nz → u_ = v_ := by
  intro u_ v_ h
  obtain l := u_
  obtain l' := v_
  simp [nz_lit, nz1_lit, nz_agg, nz_sl, nz1_sl, encLTFind] at h
  first | (simp [h]; done) | (obtain ⟨⟩ := h; simp_all; done) | simp_all
@[simp] theorem c89_fn (l : List TFind) : c89.fn [.sl false 8 yTFind (ML encTFind l)] [] = some ((fun (l : List TFind) => True) l, (fun (l : List TFind) => (.agg [.sl false 8 yTFind (ML encTFind l), .fn (.func 131) [] []] : D)) l, (fun (l : List TFind) => []) l) :=
  mkCon_fn (fun x y h _ => c89_inj x y h) (l : (List TFind)) (by simp [nz, nz1, ML_nil, encLTFind]) rfl
@[simp] theorem c89_fn1 (s_l : Nat) (z_l : D) : c89.fn [.sl false s_l z_l []] [] = some ((fun (l : List TFind) => True) [], (fun (l : List TFind) => (.agg [.sl false 8 yTFind (ML encTFind l), .fn (.func 131) [] []] : D)) [], (fun (l : List TFind) => []) []) :=
  mkCon_fn (fun x y h _ => c89_inj x y h) ([] : (List TFind)) (by simp [nz, nz1, ML_nil, encLTFind]) rfl
theorem c89_pc (l : List TFind) : PCo Try.prog 89 [encLTFind l] (Tab.of []) (.agg [.sl false 8 yTFind (ML encTFind l), .fn (.func 131) [] []]) (Tab.of []) := by
  refine pco_of_run [] (E := ⟨[], []⟩) (m := false) (base := 0) Env.ok_nil G_ok mix 300 6 Try.func89 (by kernel_rfl) rfl (by kernel_rfl) (by kernel_rfl) rfl ?_
  simp [Try.f89]
  all_goals first | omega | (rw [Bool.eq_iff_iff]; simp; omega) | grind
theorem c89_ok : c89.ok Try.prog := mkCon_ok fun l hpre => c89_pc l
/-- loop.example/g03007/impl.findsInOrder$1 -/
noncomputable def c131 : Con := mkCon 131 false (α := TFind) (fun x => (fun (x : TFind) => [encTFind x]) x) (fun _ => []) (fun x => (fun (x : TFind) => True) x) (fun x => (fun (x : TFind) => (dI (nFind x) : D)) x) (fun x => (fun (x : TFind) => []) x)
@[simp] theorem c131_f : c131.f = 131 := rfl
@[simp] theorem c131_own : c131.own = false := rfl
theorem c131_inj : ∀ u_ v_ : TFind, ((fun x => (fun (x : TFind) => [encTFind x]) x) u_).map nz = ((fun x => (fun (x : TFind) => [encTFind x]) x) v_).map nz → u_ = v_ := by
  intro u_ v_ h
  obtain ⟨⟨x_Thing_Id, x_Thing_Kind, x_Thing_Colour, x_Thing_Size, x_Thing_Worth⟩, x_Place, x_At, x_Finder⟩ := u_
  obtain ⟨⟨x_Thing_Id', x_Thing_Kind', x_Thing_Colour', x_Thing_Size', x_Thing_Worth'⟩, x_Place', x_At', x_Finder'⟩ := v_
  simp [nz_lit, nz1_lit, nz_agg, nz_sl, nz1_sl, encTFind, encTThing] at h
  first | (simp [h]; done) | (obtain ⟨⟩ := h; simp_all; done) | simp_all
@[simp] theorem c131_fn (x_Thing_Id : Int) (x_Thing_Kind : Int) (x_Thing_Colour : Int) (x_Thing_Size : Int) (x_Thing_Worth : Int) (x_Place : Int) (x_At : Int) (x_Finder : Int) : c131.fn [.agg [.lit (.int .i64 x_Thing_Id), .lit (.int .i64 x_Thing_Kind), .lit (.int .i64 x_Thing_Colour), .lit (.int .i64 x_Thing_Size), .lit (.int .i64 x_Thing_Worth), .lit (.int .i64 x_Place), .lit (.int .i64 x_At), .lit (.int .i64 x_Finder)]] [] = some ((fun (x : TFind) => True) ⟨⟨x_Thing_Id, x_Thing_Kind, x_Thing_Colour, x_Thing_Size, x_Thing_Worth⟩, x_Place, x_At, x_Finder⟩, (fun (x : TFind) => (dI (nFind x) : D)) ⟨⟨x_Thing_Id, x_Thing_Kind, x_Thing_Colour, x_Thing_Size, x_Thing_Worth⟩, x_Place, x_At, x_Finder⟩, (fun (x : TFind) => []) ⟨⟨x_Thing_Id, x_Thing_Kind, x_Thing_Colour, x_Thing_Size, x_Thing_Worth⟩, x_Place, x_At, x_Finder⟩) :=
  mkCon_fn (fun x y h _ => c131_inj x y h) (⟨⟨x_Thing_Id, x_Thing_Kind, x_Thing_Colour, x_Thing_Size, x_Thing_Worth⟩, x_Place, x_At, x_Finder⟩ : TFind) (by simp [nz, nz1, ML_nil, encTFind, encTThing]) rfl
theorem c131_pc (x : TFind) : PCo Try.prog 131 [encTFind x] (Tab.of []) (dI (nFind x)) (Tab.of []) := by
  obtain ⟨⟨x_Thing_Id, x_Thing_Kind, x_Thing_Colour, x_Thing_Size, x_Thing_Worth⟩, x_Place, x_At, x_Finder⟩ := x
  refine pco_of_run [] (E := ⟨[], []⟩) (m := false) (base := 0) Env.ok_nil G_ok mix 300 6 Try.func131 (by kernel_rfl) rfl (by kernel_rfl) (by kernel_rfl) rfl ?_
  simp [Try.f131]
  all_goals first | omega | (rw [Bool.eq_iff_iff]; simp; omega) | grind
theorem c131_ok : c131.ok Try.prog := mkCon_ok fun x hpre => c131_pc x
/-- (loop.example/g03007/impl.sortedList[loop.example/g03007/impl.Find]).isValid -/
noncomputable def c134 : Con := mkCon 134 false (α := (List TFind) × Int) (fun x => (fun (l : List TFind) (lim : Int) => ([.agg [.sl false 8 yTFind (ML encTFind l), .fn (.func 131) [] []], dI lim, .fn (.func 135) [] []] : List D)) x.1 x.2) (fun x => (fun (l : List TFind) (lim : Int) => ([] : List (Nm × OO))) x.1 x.2) (fun x => (fun (l : List TFind) (lim : Int) => l.length ≤ 1099511627776) x.1 x.2) (fun x => (fun (l : List TFind) (lim : Int) => (dB (decide (l.length ≤ lim) && ascBy mIsFind nFind none l) : D)) x.1 x.2) (fun x => (fun (l : List TFind) (lim : Int) => ([] : List (Nm × OO))) x.1 x.2)
@[simp] theorem c134_f : c134.f = 134 := rfl
@[simp] theorem c134_own : c134.own = false := rfl
theorem c134_inj : ∀ u_ v_ : (List TFind) × Int, ((fun x => (fun (l : List TFind) (lim : Int) => ([.agg [.sl false 8 yTFind (ML encTFind l), .fn (.func 131) [] []], dI lim, .fn (.func 135) [] []] : List D)) x.1 x.2) u_).map nz = ((fun x => (fun (l : List TFind) (lim : Int) => ([.agg [.sl false 8 yTFind (ML encTFind l), .fn (.func 131) [] []], dI lim, .fn (.func 135) [] []] : List D)) x.1 x.2) v_).map nz → (fun x => (fun (l : List TFind) (lim : Int) => ([] : List (Nm × OO))) x.1 x.2) u_ = (fun x => (fun (l : List TFind) (lim : Int) => ([] : List (Nm × OO))) x.1 x.2) v_ → u_ = v_ := by
  intro u_ v_ h h2_
  obtain ⟨l, lim⟩ := u_
  obtain ⟨l', lim'⟩ := v_
  simp [nz_lit, nz1_lit, nz_agg, nz_sl, nz1_sl, nz_sx, nz_el, nz1_el, nz_own, nz1_own, nz_ptr, nz_fn, nz_iface] at h h2_
  first | (simp [h, h2_]; done) | simp_all | grind
@[simp] theorem c134_fn (l : List TFind) (lim : Int) : c134.fn ([.agg [.sl false 8 yTFind (ML encTFind l), .fn (.func 131) [] []], dI lim, .fn (.func 135) [] []]) ([]) = some (l.length ≤ 1099511627776, dB (decide (l.length ≤ lim) && ascBy mIsFind nFind none l), []) :=
  mkCon_fn c134_inj ((l, lim) : (List TFind) × Int) rfl rfl
theorem c134_pc (l : List TFind) (lim : Int) (hpre : l.length ≤ 1099511627776) : PCo Try.prog 134 ([.agg [.sl false 8 yTFind (ML encTFind l), .fn (.func 131) [] []], dI lim, .fn (.func 135) [] []]) (Tab.of ([])) (dB (decide (l.length ≤ lim) && ascBy mIsFind nFind none l)) (Tab.of ([])) := by
  refine pco_of_run [6] (E := ⟨[c131, c135], []⟩) (m := false) (base := 0) (Env.ok_cons c131_ok (Env.ok_cons c135_ok Env.ok_nil)) G_ok mix 300 6 Try.func134 (by kernel_rfl) rfl (by kernel_rfl) (by kernel_rfl) rfl ?_
  simp [Try.f134]
  refine ⟨fun h h2 => by omega, fun hlim => ?_⟩
  refine loop_inv (fun p : Nat => p ≤ l.length ∧ ascBy mIsFind nFind none l = ascBy mIsFind nFind (prevO nFind l p) (l.drop p)) (fun p => [(2, .fn (.func 135) [] []), (3, .ptr (0, 1) 0), (6, dB false), (15, .sl false 8 yTFind (ML encTFind l)), (16, dI l.length), (17, dI p)]) (fun _ => [((0, 1), .box (.agg [.sl false 8 yTFind (ML encTFind l), .fn (.func 131) [] []]))]) 2 (fun p => l.length - p) 0 400 (by simp) (by simp) (by simp) ?_
  intro p ⟨hp, hi⟩
  simp
  refine ⟨fun hlt => ?_, fun hge => ?_⟩
  · rw [ascBy_at hlt] at hi; simp only [nFind, wantN] at hi
    repeat' (first | omega | refine And.intro ?_ ?_ | intro _)
    all_goals first | exact Again.mk (p + 1) ⟨by omega, by rw [hi]; grind⟩ (by simp) (by first | omega | (simp; omega)) | (rw [hi]; grind)
  · rw [hi, ascBy_end hge]; simp; omega
theorem c134_ok : c134.ok Try.prog := mkCon_ok fun ⟨l, lim⟩ hpre => c134_pc l lim hpre
/-- loop.example/g03007/impl.AreFinds -/
noncomputable def c91 : Con := mkCon 91 false (α := (List TFind)) (fun x => (fun (l : List TFind) => [encLTFind l]) x) (fun _ => []) (fun x => (fun (l : List TFind) => l.length ≤ 1099511627776) x) (fun x => (fun (l : List TFind) => (dB (mAreFinds l) : D)) x) (fun x => (fun (l : List TFind) => []) x)
@[simp] theorem c91_f : c91.f = 91 := rfl
@[simp] theorem c91_own : c91.own = false := rfl
theorem c91_inj : ∀ u_ v_ : (List TFind), ((fun x => (fun (l : List TFind) => [encLTFind l]) x) u_).map nz = ((fun x => (fun (l : List TFind) => [encLTFind l]) x) v_).map nz → u_ = v_ := by
  intro u_ v_ h
  obtain l := u_
  obtain l' := v_
  simp [nz_lit, nz1_lit, nz_agg, nz_sl, nz1_sl, encLTFind] at h
  first | (simp [h]; done) | (obtain ⟨⟩ := h; simp_all; done) | simp_all
@[simp] theorem c91_fn (l : List TFind) : c91.fn [.sl false 8 yTFind (ML encTFind l)] [] = some ((fun (l : List TFind) => l.length ≤ 1099511627776) l, (fun (l : List TFind) => (dB (mAreFinds l) : D)) l, (fun (l : List TFind) => []) l) :=
  mkCon_fn (fun x y h _ => c91_inj x y h) (l : (List TFind)) (by simp [nz, nz1, ML_nil, encLTFind]) rfl
@[simp] theorem c91_fn1 (s_l : Nat) (z_l : D) : c91.fn [.sl false s_l z_l []] [] = some ((fun (l : List TFind) => l.length ≤ 1099511627776) [], (fun (l : List TFind) => (dB (mAreFinds l) : D)) [], (fun (l : List TFind) => []) []) :=
  mkCon_fn (fun x y h _ => c91_inj x y h) ([] : (List TFind)) (by simp [nz, nz1, ML_nil, encLTFind]) rfl
theorem c91_pc (l : List TFind) (hpre : l.length ≤ 1099511627776) : PCo Try.prog 91 [encLTFind l] (Tab.of []) (dB (mAreFinds l)) (Tab.of []) := by
  refine pco_of_run [] (E := ⟨[c89, c134, c135, c135], []⟩) (m := false) (base := 0) (Env.ok_cons c89_ok (Env.ok_cons c134_ok (Env.ok_cons c135_ok (Env.ok_cons c135_ok Env.ok_nil)))) G_ok mix 300 6 Try.func91 (by kernel_rfl) rfl (by kernel_rfl) (by kernel_rfl) rfl ?_
  simp [Try.f91]
  have h : ((l.length : Int) ≤ 20) ↔ l.length ≤ 20 := by omega
  simp [mAreFinds, h, hpre]
theorem c91_ok : c91.ok Try.prog := mkCon_ok fun l hpre => c91_pc l hpre
/-- (loop.example/g03007/impl.sortedList[loop.example/g03007/impl.Find]).indexOf$1 -/
noncomputable def c153 : Con := mkCon 153 false (α := TFind × (List TFind) × Int) (fun x => (fun (x : TFind) (l : List TFind) (n : Int) => ([encTFind x, .el (.agg [.sl false 8 yTFind (ML encTFind l), .fn (.func 131) [] []]), .el (dI n)] : List D)) x.1 x.2.1 x.2.2) (fun x => (fun (x : TFind) (l : List TFind) (n : Int) => ([] : List (Nm × OO))) x.1 x.2.1 x.2.2) (fun x => (fun (x : TFind) (l : List TFind) (n : Int) => True) x.1 x.2.1 x.2.2) (fun x => (fun (x : TFind) (l : List TFind) (n : Int) => (dB (wantN nFind n x) : D)) x.1 x.2.1 x.2.2) (fun x => (fun (x : TFind) (l : List TFind) (n : Int) => ([] : List (Nm × OO))) x.1 x.2.1 x.2.2)
@[simp] theorem c153_f : c153.f = 153 := rfl
@[simp] theorem c153_own : c153.own = false := rfl
theorem c153_inj : ∀ u_ v_ : TFind × (List TFind) × Int, ((fun x => (fun (x : TFind) (l : List TFind) (n : Int) => ([encTFind x, .el (.agg [.sl false 8 yTFind (ML encTFind l), .fn (.func 131) [] []]), .el (dI n)] : List D)) x.1 x.2.1 x.2.2) u_).map nz = ((fun x => (fun (x : TFind) (l : List TFind) (n : Int) => ([encTFind x, .el (.agg [.sl false 8 yTFind (ML encTFind l), .fn (.func 131) [] []]), .el (dI n)] : List D)) x.1 x.2.1 x.2.2) v_).map nz → (fun x => (fun (x : TFind) (l : List TFind) (n : Int) => ([] : List (Nm × OO))) x.1 x.2.1 x.2.2) u_ = (fun x => (fun (x : TFind) (l : List TFind) (n : Int) => ([] : List (Nm × OO))) x.1 x.2.1 x.2.2) v_ → u_ = v_ := by
  intro u_ v_ h h2_
  obtain ⟨⟨⟨x_Thing_Id, x_Thing_Kind, x_Thing_Colour, x_Thing_Size, x_Thing_Worth⟩, x_Place, x_At, x_Finder⟩, l, n⟩ := u_
  obtain ⟨⟨⟨x_Thing_Id', x_Thing_Kind', x_Thing_Colour', x_Thing_Size', x_Thing_Worth'⟩, x_Place', x_At', x_Finder'⟩, l', n'⟩ := v_
  simp [nz_lit, nz1_lit, nz_agg, nz_sl, nz1_sl, nz_sx, nz_el, nz1_el, nz_own, nz1_own, nz_ptr, nz_fn, nz_iface] at h h2_
  first | (simp [h, h2_]; done) | simp_all | grind
@[simp] theorem c153_fn (x_Thing_Id : Int) (x_Thing_Kind : Int) (x_Thing_Colour : Int) (x_Thing_Size : Int) (x_Thing_Worth : Int) (x_Place : Int) (x_At : Int) (x_Finder : Int) (l : List TFind) (n : Int) : c153.fn ([.agg [.lit (.int .i64 x_Thing_Id), .lit (.int .i64 x_Thing_Kind), .lit (.int .i64 x_Thing_Colour), .lit (.int .i64 x_Thing_Size), .lit (.int .i64 x_Thing_Worth), .lit (.int .i64 x_Place), .lit (.int .i64 x_At), .lit (.int .i64 x_Finder)], .el (.agg [.sl false 8 yTFind (ML encTFind l), .fn (.func 131) [] []]), .el (dI n)]) ([]) = some (True, dB (wantN nFind n (⟨⟨x_Thing_Id, x_Thing_Kind, x_Thing_Colour, x_Thing_Size, x_Thing_Worth⟩, x_Place, x_At, x_Finder⟩ : TFind)), []) :=
  mkCon_fn c153_inj ((⟨⟨x_Thing_Id, x_Thing_Kind, x_Thing_Colour, x_Thing_Size, x_Thing_Worth⟩, x_Place, x_At, x_Finder⟩, l, n) : TFind × (List TFind) × Int) rfl rfl
theorem c153_pc (x : TFind) (l : List TFind) (n : Int) : PCo Try.prog 153 ([encTFind x, .el (.agg [.sl false 8 yTFind (ML encTFind l), .fn (.func 131) [] []]), .el (dI n)]) (Tab.of ([])) (dB (wantN nFind n x)) (Tab.of ([])) := by
  refine pco_of_run [1] (E := ⟨[c131], []⟩) (m := false) (base := 0) (Env.ok_cons c131_ok Env.ok_nil) G_ok mix 300 6 Try.func153 (by kernel_rfl) rfl (by kernel_rfl) (by kernel_rfl) rfl ?_
  simp [Try.f153]
  simp [wantN]; first | done | rfl
theorem c153_ok : c153.ok Try.prog := mkCon_ok fun ⟨x, l, n⟩ hpre => c153_pc x l n
/-- slices.IndexFunc[[]loop.example/g03007/impl.Fin -/
noncomputable def c132_i : Con := mkCon 132 false (α := (List TFind) × (List TFind) × Int) (fun x => (fun (l : List TFind) (l2 : List TFind) (n : Int) => ([.sl false 8 yTFind (ML encTFind l), .fn (.func 153) [] [.el (.agg [.sl false 8 yTFind (ML encTFind l2), .fn (.func 131) [] []]), .el (dI n)]] : List D)) x.1 x.2.1 x.2.2) (fun x => (fun (l : List TFind) (l2 : List TFind) (n : Int) => ([] : List (Nm × OO))) x.1 x.2.1 x.2.2) (fun x => (fun (l : List TFind) (l2 : List TFind) (n : Int) => l.length ≤ 1099511627776) x.1 x.2.1 x.2.2) (fun x => (fun (l : List TFind) (l2 : List TFind) (n : Int) => (dI (indexBy (wantN nFind n) 0 l) : D)) x.1 x.2.1 x.2.2) (fun x => (fun (l : List TFind) (l2 : List TFind) (n : Int) => ([] : List (Nm × OO))) x.1 x.2.1 x.2.2)
@[simp] theorem c132_i_f : c132_i.f = 132 := rfl
@[simp] theorem c132_i_own : c132_i.own = false := rfl
theorem c132_i_inj : ∀ u_ v_ : (List TFind) × (List TFind) × Int, ((fun x => (fun (l : List TFind) (l2 : List TFind) (n : Int) => ([.sl false 8 yTFind (ML encTFind l), .fn (.func 153) [] [.el (.agg [.sl false 8 yTFind (ML encTFind l2), .fn (.func 131) [] []]), .el (dI n)]] : List D)) x.1 x.2.1 x.2.2) u_).map nz = ((fun x => (fun (l : List TFind) (l2 : List TFind) (n : Int) => ([.sl false 8 yTFind (ML encTFind l), .fn (.func 153) [] [.el (.agg [.sl false 8 yTFind (ML encTFind l2), .fn (.func 131) [] []]), .el (dI n)]] : List D)) x.1 x.2.1 x.2.2) v_).map nz → (fun x => (fun (l : List TFind) (l2 : List TFind) (n : Int) => ([] : List (Nm × OO))) x.1 x.2.1 x.2.2) u_ = (fun x => (fun (l : List TFind) (l2 : List TFind) (n : Int) => ([] : List (Nm × OO))) x.1 x.2.1 x.2.2) v_ → u_ = v_ := by
  intro u_ v_ h h2_
  obtain ⟨l, l2, n⟩ := u_
  obtain ⟨l', l2', n'⟩ := v_
  simp [nz_lit, nz1_lit, nz_agg, nz_sl, nz1_sl, nz_sx, nz_el, nz1_el, nz_own, nz1_own, nz_ptr, nz_fn, nz_iface] at h h2_
  first | (simp [h, h2_]; done) | simp_all | grind
@[simp] theorem c132_i_fn (l : List TFind) (l2 : List TFind) (n : Int) : c132_i.fn ([.sl false 8 yTFind (ML encTFind l), .fn (.func 153) [] [.el (.agg [.sl false 8 yTFind (ML encTFind l2), .fn (.func 131) [] []]), .el (dI n)]]) ([]) = some (l.length ≤ 1099511627776, dI (indexBy (wantN nFind n) 0 l), []) :=
  mkCon_fn c132_i_inj ((l, l2, n) : (List TFind) × (List TFind) × Int) rfl rfl
theorem c132_i_pc (l : List TFind) (l2 : List TFind) (n : Int) (hpre : l.length ≤ 1099511627776) : PCo Try.prog 132 ([.sl false 8 yTFind (ML encTFind l), .fn (.func 153) [] [.el (.agg [.sl false 8 yTFind (ML encTFind l2), .fn (.func 131) [] []]), .el (dI n)]]) (Tab.of ([])) (dI (indexBy (wantN nFind n) 0 l)) (Tab.of ([])) := by
  refine pco_of_run [] (E := ⟨[c153], []⟩) (m := false) (base := 0) (Env.ok_cons c153_ok Env.ok_nil) G_ok mix 300 6 Try.func132 (by kernel_rfl) rfl (by kernel_rfl) (by kernel_rfl) rfl ?_
  simp [Try.f132]
  refine loop_inv (fun p : Nat => p ≤ l.length ∧ indexBy (wantN nFind n) 0 l = indexBy (wantN nFind n) p (l.drop p)) (fun p => [(0, .sl false 8 yTFind (ML encTFind l)), (1, .fn (.func 153) [] [.el (.agg [.sl false 8 yTFind (ML encTFind l2), .fn (.func 131) [] []]), .el (dI n)]), (7, dI l.length), (8, dI p)]) (fun _ => []) 1 (fun p => l.length - p) 0 400 (by simp) (by simp) (by simp) ?_
  intro p ⟨hp, hi⟩
  simp
  refine ⟨fun hlt => ?_, fun hge => ?_⟩
  · rw [indexBy_at (d := default) hlt] at hi
    repeat' (first | omega | refine And.intro ?_ ?_ | intro _)
    all_goals first | exact Again.mk (p + 1) ⟨by omega, by rw [hi]; grind⟩ (by simp) (by first | omega | (simp; omega)) | (rw [hi]; grind)
  · rw [hi, indexBy_end hge]
theorem c132_i_ok : c132_i.ok Try.prog := mkCon_ok fun ⟨l, l2, n⟩ hpre => c132_i_pc l l2 n hpre
/-- (loop.example/g03007/impl.sortedList[loop.example/g03007/impl.Find]).put$1 -/
noncomputable def c133 : Con := mkCon 133 false (α := TFind × (List TFind) × Int) (fun x => (fun (x : TFind) (l : List TFind) (n : Int) => ([encTFind x, .el (.agg [.sl false 8 yTFind (ML encTFind l), .fn (.func 131) [] []]), .el (dI n)] : List D)) x.1 x.2.1 x.2.2) (fun x => (fun (x : TFind) (l : List TFind) (n : Int) => ([] : List (Nm × OO))) x.1 x.2.1 x.2.2) (fun x => (fun (x : TFind) (l : List TFind) (n : Int) => True) x.1 x.2.1 x.2.2) (fun x => (fun (x : TFind) (l : List TFind) (n : Int) => (dB (geN nFind n x) : D)) x.1 x.2.1 x.2.2) (fun x => (fun (x : TFind) (l : List TFind) (n : Int) => ([] : List (Nm × OO))) x.1 x.2.1 x.2.2)
@[simp] theorem c133_f : c133.f = 133 := rfl
@[simp] theorem c133_own : c133.own = false := rfl
theorem c133_inj : ∀ u_ v_ : TFind × (List TFind) × Int, ((fun x => (fun (x : TFind) (l : List TFind) (n : Int) => ([encTFind x, .el (.agg [.sl false 8 yTFind (ML encTFind l), .fn (.func 131) [] []]), .el (dI n)] : List D)) x.1 x.2.1 x.2.2) u_).map nz = ((fun x => (fun (x : TFind) (l : List TFind) (n : Int) => ([encTFind x, .el (.agg [.sl false 8 yTFind (ML encTFind l), .fn (.func 131) [] []]), .el (dI n)] : List D)) x.1 x.2.1 x.2.2) v_).map nz → (fun x => (fun (x : TFind) (l : List TFind) (n : Int) => ([] : List (Nm × OO))) x.1 x.2.1 x.2.2) u_ = (fun x => (fun (x : TFind) (l : List TFind) (n : Int) => ([] : List (Nm × OO))) x.1 x.2.1 x.2.2) v_ → u_ = v_ := by
  intro u_ v_ h h2_
  obtain ⟨⟨⟨x_Thing_Id, x_Thing_Kind, x_Thing_Colour, x_Thing_Size, x_Thing_Worth⟩, x_Place, x_At, x_Finder⟩, l, n⟩ := u_
  obtain ⟨⟨⟨x_Thing_Id', x_Thing_Kind', x_Thing_Colour', x_Thing_Size', x_Thing_Worth'⟩, x_Place', x_At', x_Finder'⟩, l', n'⟩ := v_
  simp [nz_lit, nz1_lit, nz_agg, nz_sl, nz1_sl, nz_sx, nz_el, nz1_el, nz_own, nz1_own, nz_ptr, nz_fn, nz_iface] at h h2_
  first | (simp [h, h2_]; done) | simp_all | grind
@[simp] theorem c133_fn (x_Thing_Id : Int) (x_Thing_Kind : Int) (x_Thing_Colour : Int) (x_Thing_Size : Int) (x_Thing_Worth : Int) (x_Place : Int) (x_At : Int) (x_Finder : Int) (l : List TFind) (n : Int) : c133.fn ([.agg [.lit (.int .i64 x_Thing_Id), .lit (.int .i64 x_Thing_Kind), .lit (.int .i64 x_Thing_Colour), .lit (.int .i64 x_Thing_Size), .lit (.int .i64 x_Thing_Worth), .lit (.int .i64 x_Place), .lit (.int .i64 x_At), .lit (.int .i64 x_Finder)], .el (.agg [.sl false 8 yTFind (ML encTFind l), .fn (.func 131) [] []]), .el (dI n)]) ([]) = some (True, dB (geN nFind n (⟨⟨x_Thing_Id, x_Thing_Kind, x_Thing_Colour, x_Thing_Size, x_Thing_Worth⟩, x_Place, x_At, x_Finder⟩ : TFind)), []) :=
  mkCon_fn c133_inj ((⟨⟨x_Thing_Id, x_Thing_Kind, x_Thing_Colour, x_Thing_Size, x_Thing_Worth⟩, x_Place, x_At, x_Finder⟩, l, n) : TFind × (List TFind) × Int) rfl rfl
theorem c133_pc (x : TFind) (l : List TFind) (n : Int) : PCo Try.prog 133 ([encTFind x, .el (.agg [.sl false 8 yTFind (ML encTFind l), .fn (.func 131) [] []]), .el (dI n)]) (Tab.of ([])) (dB (geN nFind n x)) (Tab.of ([])) := by
  refine pco_of_run [1] (E := ⟨[c131], []⟩) (m := false) (base := 0) (Env.ok_cons c131_ok Env.ok_nil) G_ok mix 300 6 Try.func133 (by kernel_rfl) rfl (by kernel_rfl) (by kernel_rfl) rfl ?_
  simp [Try.f133]
  simp [geN]; first | done | rfl
theorem c133_ok : c133.ok Try.prog := mkCon_ok fun ⟨x, l, n⟩ hpre => c133_pc x l n
/-- slices.IndexFunc[[]loop.example/g03007/impl.Fin -/
noncomputable def c132_p : Con := mkCon 132 false (α := (List TFind) × (List TFind) × Int) (fun x => (fun (l : List TFind) (l2 : List TFind) (n : Int) => ([.sl false 8 yTFind (ML encTFind l), .fn (.func 133) [] [.el (.agg [.sl false 8 yTFind (ML encTFind l2), .fn (.func 131) [] []]), .el (dI n)]] : List D)) x.1 x.2.1 x.2.2) (fun x => (fun (l : List TFind) (l2 : List TFind) (n : Int) => ([] : List (Nm × OO))) x.1 x.2.1 x.2.2) (fun x => (fun (l : List TFind) (l2 : List TFind) (n : Int) => l.length ≤ 1099511627776) x.1 x.2.1 x.2.2) (fun x => (fun (l : List TFind) (l2 : List TFind) (n : Int) => (dI (indexBy (geN nFind n) 0 l) : D)) x.1 x.2.1 x.2.2) (fun x => (fun (l : List TFind) (l2 : List TFind) (n : Int) => ([] : List (Nm × OO))) x.1 x.2.1 x.2.2)
@[simp] theorem c132_p_f : c132_p.f = 132 := rfl
@[simp] theorem c132_p_own : c132_p.own = false := rfl
theorem c132_p_inj : ∀ u_ v_ : (List TFind) × (List TFind) × Int, ((fun x => (fun (l : List TFind) (l2 : List TFind) (n : Int) => ([.sl false 8 yTFind (ML encTFind l), .fn (.func 133) [] [.el (.agg [.sl false 8 yTFind (ML encTFind l2), .fn (.func 131) [] []]), .el (dI n)]] : List D)) x.1 x.2.1 x.2.2) u_).map nz = ((fun x => (fun (l : List TFind) (l2 : List TFind) (n : Int) => ([.sl false 8 yTFind (ML encTFind l), .fn (.func 133) [] [.el (.agg [.sl false 8 yTFind (ML encTFind l2), .fn (.func 131) [] []]), .el (dI n)]] : List D)) x.1 x.2.1 x.2.2) v_).map nz → (fun x => (fun (l : List TFind) (l2 : List TFind) (n : Int) => ([] : List (Nm × OO))) x.1 x.2.1 x.2.2) u_ = (fun x => (fun (l : List TFind) (l2 : List TFind) (n : Int) => ([] : List (Nm × OO))) x.1 x.2.1 x.2.2) v_ → u_ = v_ := by
  intro u_ v_ h h2_
  obtain ⟨l, l2, n⟩ := u_
  obtain ⟨l', l2', n'⟩ := v_
  simp [nz_lit, nz1_lit, nz_agg, nz_sl, nz1_sl, nz_sx, nz_el, nz1_el, nz_own, nz1_own, nz_ptr, nz_fn, nz_iface] at h h2_
  first | (simp [h, h2_]; done) | simp_all | grind
@[simp] theorem c132_p_fn (l : List TFind) (l2 : List TFind) (n : Int) : c132_p.fn ([.sl false 8 yTFind (ML encTFind l), .fn (.func 133) [] [.el (.agg [.sl false 8 yTFind (ML encTFind l2), .fn (.func 131) [] []]), .el (dI n)]]) ([]) = some (l.length ≤ 1099511627776, dI (indexBy (geN nFind n) 0 l), []) :=
  mkCon_fn c132_p_inj ((l, l2, n) : (List TFind) × (List TFind) × Int) rfl rfl
theorem c132_p_pc (l : List TFind) (l2 : List TFind) (n : Int) (hpre : l.length ≤ 1099511627776) : PCo Try.prog 132 ([.sl false 8 yTFind (ML encTFind l), .fn (.func 133) [] [.el (.agg [.sl false 8 yTFind (ML encTFind l2), .fn (.func 131) [] []]), .el (dI n)]]) (Tab.of ([])) (dI (indexBy (geN nFind n) 0 l)) (Tab.of ([])) := by
  refine pco_of_run [] (E := ⟨[c133], []⟩) (m := false) (base := 0) (Env.ok_cons c133_ok Env.ok_nil) G_ok mix 300 6 Try.func132 (by kernel_rfl) rfl (by kernel_rfl) (by kernel_rfl) rfl ?_
  simp [Try.f132]
  refine loop_inv (fun p : Nat => p ≤ l.length ∧ indexBy (geN nFind n) 0 l = indexBy (geN nFind n) p (l.drop p)) (fun p => [(0, .sl false 8 yTFind (ML encTFind l)), (1, .fn (.func 133) [] [.el (.agg [.sl false 8 yTFind (ML encTFind l2), .fn (.func 131) [] []]), .el (dI n)]), (7, dI l.length), (8, dI p)]) (fun _ => []) 1 (fun p => l.length - p) 0 400 (by simp) (by simp) (by simp) ?_
  intro p ⟨hp, hi⟩
  simp
  refine ⟨fun hlt => ?_, fun hge => ?_⟩
  · rw [indexBy_at (d := default) hlt] at hi
    repeat' (first | omega | refine And.intro ?_ ?_ | intro _)
    all_goals first | exact Again.mk (p + 1) ⟨by omega, by rw [hi]; grind⟩ (by simp) (by first | omega | (simp; omega)) | (rw [hi]; grind)
  · rw [hi, indexBy_end hge]
theorem c132_p_ok : c132_p.ok Try.prog := mkCon_ok fun ⟨l, l2, n⟩ hpre => c132_p_pc l l2 n hpre
noncomputable def c132 : Con := selCon 132 false [([153], c132_i), ([133], c132_p)]
@[simp] theorem c132_f : c132.f = 132 := rfl
@[simp] theorem c132_own : c132.own = false := rfl
@[simp] theorem c132_fn0 (l : List TFind) (l2 : List TFind) (n : Int) : c132.fn ([.sl false 8 yTFind (ML encTFind l), .fn (.func 153) [] [.el (.agg [.sl false 8 yTFind (ML encTFind l2), .fn (.func 131) [] []]), .el (dI n)]]) ([]) = some (l.length ≤ 1099511627776, dI (indexBy (wantN nFind n) 0 l), []) := by
  rw [c132, selCon_fn]
  have h : selK [([153], c132_i), ([133], c132_p)] (keyDs ([.sl false 8 yTFind (ML encTFind l), .fn (.func 153) [] [.el (.agg [.sl false 8 yTFind (ML encTFind l2), .fn (.func 131) [] []]), .el (dI n)]])) = some c132_i := by simp
  rw [h]
  exact c132_i_fn l l2 n
@[simp] theorem c132_fn1 (l : List TFind) (l2 : List TFind) (n : Int) : c132.fn ([.sl false 8 yTFind (ML encTFind l), .fn (.func 133) [] [.el (.agg [.sl false 8 yTFind (ML encTFind l2), .fn (.func 131) [] []]), .el (dI n)]]) ([]) = some (l.length ≤ 1099511627776, dI (indexBy (geN nFind n) 0 l), []) := by
  rw [c132, selCon_fn]
  have h : selK [([153], c132_i), ([133], c132_p)] (keyDs ([.sl false 8 yTFind (ML encTFind l), .fn (.func 133) [] [.el (.agg [.sl false 8 yTFind (ML encTFind l2), .fn (.func 131) [] []]), .el (dI n)]])) = some c132_p := by simp
  rw [h]
  exact c132_p_fn l l2 n
theorem c132_ok : c132.ok Try.prog := selCon_ok fun p hp => by
  simp only [List.mem_cons, List.not_mem_nil, or_false] at hp
  rcases hp with rfl | rfl
  · exact ⟨rfl, c132_i_ok⟩
  · exact ⟨rfl, c132_p_ok⟩
/-- (loop.example/g03007/impl.sortedList[loop.example/g03007/impl.Find]).indexOf -/
noncomputable def c130 : Con := mkCon 130 false (α := (List TFind) × Int) (fun x => (fun (l : List TFind) (n : Int) => ([.agg [.sl false 8 yTFind (ML encTFind l), .fn (.func 131) [] []], dI n] : List D)) x.1 x.2) (fun x => (fun (l : List TFind) (n : Int) => ([] : List (Nm × OO))) x.1 x.2) (fun x => (fun (l : List TFind) (n : Int) => l.length ≤ 1099511627776) x.1 x.2) (fun x => (fun (l : List TFind) (n : Int) => (dI (indexBy (wantN nFind n) 0 l) : D)) x.1 x.2) (fun x => (fun (l : List TFind) (n : Int) => ([] : List (Nm × OO))) x.1 x.2)
@[simp] theorem c130_f : c130.f = 130 := rfl
@[simp] theorem c130_own : c130.own = false := rfl
theorem c130_inj : ∀ u_ v_ : (List TFind) × Int, ((fun x => (fun (l : List TFind) (n : Int) => ([.agg [.sl false 8 yTFind (ML encTFind l), .fn (.func 131) [] []], dI n] : List D)) x.1 x.2) u_).map nz = ((fun x => (fun (l : List TFind) (n : Int) => ([.agg [.sl false 8 yTFind (ML encTFind l), .fn (.func 131) [] []], dI n] : List D)) x.1 x.2) v_).map nz → (fun x => (fun (l : List TFind) (n : Int) => ([] : List (Nm × OO))) x.1 x.2) u_ = (fun x => (fun (l : List TFind) (n : Int) => ([] : List (Nm × OO))) x.1 x.2) v_ → u_ = v_ := by
  intro u_ v_ h h2_
  obtain ⟨l, n⟩ := u_
  obtain ⟨l', n'⟩ := v_
  simp [nz_lit, nz1_lit, nz_agg, nz_sl, nz1_sl, nz_sx, nz_el, nz1_el, nz_own, nz1_own, nz_ptr, nz_fn, nz_iface] at h h2_
  first | (simp [h, h2_]; done) | simp_all | grind
@[simp] theorem c130_fn (l : List TFind) (n : Int) : c130.fn ([.agg [.sl false 8 yTFind (ML encTFind l), .fn (.func 131) [] []], dI n]) ([]) = some (l.length ≤ 1099511627776, dI (indexBy (wantN nFind n) 0 l), []) :=
  mkCon_fn c130_inj ((l, n) : (List TFind) × Int) rfl rfl
theorem c130_pc (l : List TFind) (n : Int) (hpre : l.length ≤ 1099511627776) : PCo Try.prog 130 ([.agg [.sl false 8 yTFind (ML encTFind l), .fn (.func 131) [] []], dI n]) (Tab.of ([])) (dI (indexBy (wantN nFind n) 0 l)) (Tab.of ([])) := by
  refine pco_of_run [] (E := ⟨[c132, c153], []⟩) (m := false) (base := 0) (Env.ok_cons c132_ok (Env.ok_cons c153_ok Env.ok_nil)) G_ok mix 300 6 Try.func130 (by kernel_rfl) rfl (by kernel_rfl) (by kernel_rfl) rfl ?_
  simp [Try.f130]
  all_goals first | omega | (rw [Bool.eq_iff_iff]; simp; omega) | grind
theorem c130_ok : c130.ok Try.prog := mkCon_ok fun ⟨l, n⟩ hpre => c130_pc l n hpre
def mFindThing (l : List TFind) (n : Int) : Int := indexBy (wantN nFind n) 0 l
/-- loop.example/g03007/impl.FindThing -/
noncomputable def c87 : Con := mkCon 87 false (α := (List TFind) × Int) (fun x => (fun (l : List TFind) (n : Int) => [encLTFind l, dI n]) x.1 x.2) (fun _ => []) (fun x => (fun (l : List TFind) (n : Int) => l.length ≤ 1099511627776) x.1 x.2) (fun x => (fun (l : List TFind) (n : Int) => (dI (mFindThing l n) : D)) x.1 x.2) (fun x => (fun (l : List TFind) (n : Int) => []) x.1 x.2)
@[simp] theorem c87_f : c87.f = 87 := rfl
@[simp] theorem c87_own : c87.own = false := rfl
theorem c87_inj : ∀ u_ v_ : (List TFind) × Int, ((fun x => (fun (l : List TFind) (n : Int) => [encLTFind l, dI n]) x.1 x.2) u_).map nz = ((fun x => (fun (l : List TFind) (n : Int) => [encLTFind l, dI n]) x.1 x.2) v_).map nz → u_ = v_ := by
  intro u_ v_ h
  obtain ⟨l, n⟩ := u_
  obtain ⟨l', n'⟩ := v_
  simp [nz_lit, nz1_lit, nz_agg, nz_sl, nz1_sl, encLTFind] at h
  first | (simp [h]; done) | (obtain ⟨⟩ := h; simp_all; done) | simp_all
@[simp] theorem c87_fn (l : List TFind) (n : Int) : c87.fn [.sl false 8 yTFind (ML encTFind l), .lit (.int .i64 n)] [] = some ((fun (l : List TFind) (n : Int) => l.length ≤ 1099511627776) l n, (fun (l : List TFind) (n : Int) => (dI (mFindThing l n) : D)) l n, (fun (l : List TFind) (n : Int) => []) l n) :=
  mkCon_fn (fun x y h _ => c87_inj x y h) ((l, n) : (List TFind) × Int) (by simp [nz, nz1, ML_nil, encLTFind]) rfl
@[simp] theorem c87_fn1 (s_l : Nat) (z_l : D) (n : Int) : c87.fn [.sl false s_l z_l [], .lit (.int .i64 n)] [] = some ((fun (l : List TFind) (n : Int) => l.length ≤ 1099511627776) [] n, (fun (l : List TFind) (n : Int) => (dI (mFindThing l n) : D)) [] n, (fun (l : List TFind) (n : Int) => []) [] n) :=
  mkCon_fn (fun x y h _ => c87_inj x y h) (([], n) : (List TFind) × Int) (by simp [nz, nz1, ML_nil, encLTFind]) rfl
theorem c87_pc (l : List TFind) (n : Int) (hpre : l.length ≤ 1099511627776) : PCo Try.prog 87 [encLTFind l, dI n] (Tab.of []) (dI (mFindThing l n)) (Tab.of []) := by
  refine pco_of_run [] (E := ⟨[c89, c130], []⟩) (m := false) (base := 0) (Env.ok_cons c89_ok (Env.ok_cons c130_ok Env.ok_nil)) G_ok mix 300 6 Try.func87 (by kernel_rfl) rfl (by kernel_rfl) (by kernel_rfl) rfl ?_
  simp [Try.f87]
  exact ⟨hpre, rfl⟩
theorem c87_ok : c87.ok Try.prog := mkCon_ok fun ⟨l, n⟩ hpre => c87_pc l n hpre
/-- loop.example/g03007/laws.szFindS -/
noncomputable def c23 : Con := mkCon 23 false (α := (List TFind) × Int) (fun x => (fun (l : List TFind) (left : Int) => [encLTFind l, dI left]) x.1 x.2) (fun _ => []) (fun x => (fun (l : List TFind) (left : Int) => l.length ≤ maxLen ∧ 0 ≤ left ∧ left ≤ 1099511627776) x.1 x.2) (fun x => (fun (l : List TFind) (left : Int) => (dI (if left - l.length < 0 then -1 else left - l.length) : D)) x.1 x.2) (fun x => (fun (l : List TFind) (left : Int) => []) x.1 x.2)
@[simp] theorem c23_f : c23.f = 23 := rfl
@[simp] theorem c23_own : c23.own = false := rfl
theorem c23_inj : ∀ u_ v_ : (List TFind) × Int, ((fun x => (fun (l : List TFind) (left : Int) => [encLTFind l, dI left]) x.1 x.2) u_).map nz = ((fun x => (fun (l : List TFind) (left : Int) => [encLTFind l, dI left]) x.1 x.2) v_).map nz → u_ = v_ := by
  intro u_ v_ h
  obtain ⟨l, left⟩ := u_
  obtain ⟨l', left'⟩ := v_
  simp [nz_lit, nz1_lit, nz_agg, nz_sl, nz1_sl, encLTFind] at h
  first | (simp [h]; done) | (obtain ⟨⟩ := h; simp_all; done) | simp_all
@[simp] theorem c23_fn (l : List TFind) (left : Int) : c23.fn [.sl false 8 yTFind (ML encTFind l), .lit (.int .i64 left)] [] = some ((fun (l : List TFind) (left : Int) => l.length ≤ maxLen ∧ 0 ≤ left ∧ left ≤ 1099511627776) l left, (fun (l : List TFind) (left : Int) => (dI (if left - l.length < 0 then -1 else left - l.length) : D)) l left, (fun (l : List TFind) (left : Int) => []) l left) :=
  mkCon_fn (fun x y h _ => c23_inj x y h) ((l, left) : (List TFind) × Int) (by simp [nz, nz1, ML_nil, encLTFind]) rfl
@[simp] theorem c23_fn1 (s_l : Nat) (z_l : D) (left : Int) : c23.fn [.sl false s_l z_l [], .lit (.int .i64 left)] [] = some ((fun (l : List TFind) (left : Int) => l.length ≤ maxLen ∧ 0 ≤ left ∧ left ≤ 1099511627776) [] left, (fun (l : List TFind) (left : Int) => (dI (if left - l.length < 0 then -1 else left - l.length) : D)) [] left, (fun (l : List TFind) (left : Int) => []) [] left) :=
  mkCon_fn (fun x y h _ => c23_inj x y h) (([], left) : (List TFind) × Int) (by simp [nz, nz1, ML_nil, encLTFind]) rfl
theorem c23_pc (l : List TFind) (left : Int) (hpre : l.length ≤ maxLen ∧ 0 ≤ left ∧ left ≤ 1099511627776) : PCo Try.prog 23 [encLTFind l, dI left] (Tab.of []) (dI (if left - l.length < 0 then -1 else left - l.length)) (Tab.of []) := by
  refine pco_of_run [] (E := ⟨[], []⟩) (m := false) (base := 0) Env.ok_nil G_ok mix 300 6 Try.func23 (by kernel_rfl) rfl (by kernel_rfl) (by kernel_rfl) rfl ?_
  simp [Try.f23]
  simp [maxLen] at hpre
  all_goals omega
theorem c23_ok : c23.ok Try.prog := mkCon_ok fun ⟨l, left⟩ hpre => c23_pc l left hpre
/-- loop.example/g03007/laws.toFindS -/
noncomputable def c25 : Con := mkCon 25 false (α := (List TFind)) (fun x => (fun (l : List TFind) => [encLTFind l]) x) (fun _ => []) (fun x => (fun (l : List TFind) => l.length ≤ 1099511627776) x) (fun x => (fun (l : List TFind) => (.own (0, 1) 8 0 l.length : D)) x) (fun x => (fun (l : List TFind) => [((0, 1), .arr false 8 yTFind (ML encTFind l))]) x)
@[simp] theorem c25_f : c25.f = 25 := rfl
@[simp] theorem c25_own : c25.own = false := rfl
theorem c25_inj : ∀ u_ v_ : (List TFind), ((fun x => (fun (l : List TFind) => [encLTFind l]) x) u_).map nz = ((fun x => (fun (l : List TFind) => [encLTFind l]) x) v_).map nz → u_ = v_ := by
  intro u_ v_ h
  obtain l := u_
  obtain l' := v_
  simp [nz_lit, nz1_lit, nz_agg, nz_sl, nz1_sl, encLTFind] at h
  first | (simp [h]; done) | (obtain ⟨⟩ := h; simp_all; done) | simp_all
@[simp] theorem c25_fn (l : List TFind) : c25.fn [.sl false 8 yTFind (ML encTFind l)] [] = some ((fun (l : List TFind) => l.length ≤ 1099511627776) l, (fun (l : List TFind) => (.own (0, 1) 8 0 l.length : D)) l, (fun (l : List TFind) => [((0, 1), .arr false 8 yTFind (ML encTFind l))]) l) :=
  mkCon_fn (fun x y h _ => c25_inj x y h) (l : (List TFind)) (by simp [nz, nz1, ML_nil, encLTFind]) rfl
@[simp] theorem c25_fn1 (s_l : Nat) (z_l : D) : c25.fn [.sl false s_l z_l []] [] = some ((fun (l : List TFind) => l.length ≤ 1099511627776) [], (fun (l : List TFind) => (.own (0, 1) 8 0 l.length : D)) [], (fun (l : List TFind) => [((0, 1), .arr false 8 yTFind (ML encTFind l))]) []) :=
  mkCon_fn (fun x y h _ => c25_inj x y h) ([] : (List TFind)) (by simp [nz, nz1, ML_nil, encLTFind]) rfl
theorem c25_pc (l : List TFind) (hpre : l.length ≤ 1099511627776) : PCo Try.prog 25 [encLTFind l] (Tab.of []) (.own (0, 1) 8 0 l.length) (Tab.of [((0, 1), .arr false 8 yTFind (ML encTFind l))]) := by
  refine pco_of_run [] (E := ⟨[c26], []⟩) (m := false) (base := 0) (Env.ok_cons c26_ok Env.ok_nil) G_ok mix 300 6 Try.func25 (by kernel_rfl) rfl (by kernel_rfl) (by kernel_rfl) rfl ?_
  simp [Try.f25]
  refine ⟨by omega, ?_⟩
  refine loop_inv (fun p : Nat => p ≤ l.length) (fun p => [(0, encLTFind l), (3, .own (0, 1) 8 0 l.length), (4, dI p)]) (fun p => [((0, 1), .arr false 8 yTFind (ML encTFind (l.take p ++ List.replicate (l.length - p) ⟨⟨0, 0, 0, 0, 0⟩, 0, 0, 0⟩)))]) 2 (fun p => l.length - p) 0 100 (by simp) (by simp) (by first | (simp; done) | (simp; simp only [ML, List.map_replicate]; rfl)) ?_
  intro p hp
  simp
  refine ⟨fun hlt => ⟨by omega, by omega, Again.mk (p + 1) (by omega) (by simp [fill_step hlt]) (by first | omega | (simp; omega))⟩, fun hge => ?_⟩
  have : p = l.length := by omega
  subst this
  simp
theorem c25_ok : c25.ok Try.prog := mkCon_ok fun l hpre => c25_pc l hpre
/-- loop.example/g03007/laws.eqFindS -/
noncomputable def c28 : Con := mkCon 28 false (α := (List TFind) × (List TFind)) (fun x => (fun (a : List TFind) (b : List TFind) => [encLTFind a, encLTFind b]) x.1 x.2) (fun _ => []) (fun x => (fun (a : List TFind) (b : List TFind) => a.length ≤ 1099511627776 ∧ b.length ≤ 1099511627776) x.1 x.2) (fun x => (fun (a : List TFind) (b : List TFind) => (dB (decide (a = b)) : D)) x.1 x.2) (fun x => (fun (a : List TFind) (b : List TFind) => []) x.1 x.2)
@[simp] theorem c28_f : c28.f = 28 := rfl
@[simp] theorem c28_own : c28.own = false := rfl
theorem c28_inj : ∀ u_ v_ : (List TFind) × (List TFind), ((fun x => (fun (a : List TFind) (b : List TFind) => [encLTFind a, encLTFind b]) x.1 x.2) u_).map nz = ((fun x => (fun (a : List TFind) (b : List TFind) => [encLTFind a, encLTFind b]) x.1 x.2) v_).map nz → u_ = v_ := by
  intro u_ v_ h
  obtain ⟨a, b⟩ := u_
  obtain ⟨a', b'⟩ := v_
  simp [nz_lit, nz1_lit, nz_agg, nz_sl, nz1_sl, encLTFind] at h
  first | (simp [h]; done) | (obtain ⟨⟩ := h; simp_all; done) | simp_all
@[simp] theorem c28_fn (a : List TFind) (b : List TFind) : c28.fn [.sl false 8 yTFind (ML encTFind a), .sl false 8 yTFind (ML encTFind b)] [] = some ((fun (a : List TFind) (b : List TFind) => a.length ≤ 1099511627776 ∧ b.length ≤ 1099511627776) a b, (fun (a : List TFind) (b : List TFind) => (dB (decide (a = b)) : D)) a b, (fun (a : List TFind) (b : List TFind) => []) a b) :=
  mkCon_fn (fun x y h _ => c28_inj x y h) ((a, b) : (List TFind) × (List TFind)) (by simp [nz, nz1, ML_nil, encLTFind]) rfl
@[simp] theorem c28_fn1 (s_a : Nat) (z_a : D) (b : List TFind) : c28.fn [.sl false s_a z_a [], .sl false 8 yTFind (ML encTFind b)] [] = some ((fun (a : List TFind) (b : List TFind) => a.length ≤ 1099511627776 ∧ b.length ≤ 1099511627776) [] b, (fun (a : List TFind) (b : List TFind) => (dB (decide (a = b)) : D)) [] b, (fun (a : List TFind) (b : List TFind) => []) [] b) :=
  mkCon_fn (fun x y h _ => c28_inj x y h) (([], b) : (List TFind) × (List TFind)) (by simp [nz, nz1, ML_nil, encLTFind]) rfl
@[simp] theorem c28_fn2 (a : List TFind) (s_b : Nat) (z_b : D) : c28.fn [.sl false 8 yTFind (ML encTFind a), .sl false s_b z_b []] [] = some ((fun (a : List TFind) (b : List TFind) => a.length ≤ 1099511627776 ∧ b.length ≤ 1099511627776) a [], (fun (a : List TFind) (b : List TFind) => (dB (decide (a = b)) : D)) a [], (fun (a : List TFind) (b : List TFind) => []) a []) :=
  mkCon_fn (fun x y h _ => c28_inj x y h) ((a, []) : (List TFind) × (List TFind)) (by simp [nz, nz1, ML_nil, encLTFind]) rfl
@[simp] theorem c28_fn3 (s_a : Nat) (z_a : D) (s_b : Nat) (z_b : D) : c28.fn [.sl false s_a z_a [], .sl false s_b z_b []] [] = some ((fun (a : List TFind) (b : List TFind) => a.length ≤ 1099511627776 ∧ b.length ≤ 1099511627776) [] [], (fun (a : List TFind) (b : List TFind) => (dB (decide (a = b)) : D)) [] [], (fun (a : List TFind) (b : List TFind) => []) [] []) :=
  mkCon_fn (fun x y h _ => c28_inj x y h) (([], []) : (List TFind) × (List TFind)) (by simp [nz, nz1, ML_nil, encLTFind]) rfl
theorem c28_pc (a : List TFind) (b : List TFind) (hpre : a.length ≤ 1099511627776 ∧ b.length ≤ 1099511627776) : PCo Try.prog 28 [encLTFind a, encLTFind b] (Tab.of []) (dB (decide (a = b))) (Tab.of []) := by
  refine pco_of_run [] (E := ⟨[c92], []⟩) (m := false) (base := 0) (Env.ok_cons c92_ok Env.ok_nil) G_ok mix 300 6 Try.func28 (by kernel_rfl) rfl (by kernel_rfl) (by kernel_rfl) rfl ?_
  simp [Try.f28]
  obtain ⟨pre1, pre2⟩ := hpre
  refine ⟨fun h => ?_, fun h => by intro e; subst e; exact absurd rfl h⟩
  refine loop_inv (fun p : Nat => p ≤ a.length ∧ a.take p = b.take p) (fun p => [(0, encLTFind a), (1, encLTFind b), (5, dI p)]) (fun _ => []) 1 (fun p => a.length - p) 0 100 (by simp) (by simp) (by simp) ?_
  intro p ⟨hp, hi⟩
  simp
  refine ⟨fun hlt => ⟨by omega, fun h2 => ⟨by omega, Again.mk (p + 1) ⟨by omega, take_eq_step hi (by omega) (by omega) h2⟩ (by simp) (by first | omega | (simp; omega))⟩, fun h2 => by intro e; subst e; exact absurd rfl h2⟩, fun hge => ?_⟩
  exact take_eq_full hi (by omega) (by omega)
theorem c28_ok : c28.ok Try.prog := mkCon_ok fun ⟨a, b⟩ hpre => c28_pc a b hpre
abbrev mk_TFind : Int → TFind := fun n => ⟨⟨n, n + 1, n + 2, n + 3, n + 4⟩, n + 5, n + 6, n + 7⟩
/-- loop.example/g03007/laws.markFindS -/
noncomputable def c29 : Con := mkCon 29 true (α := (List TFind) × Int) (fun x => (fun (l : List TFind) (k : Int) => ([.own (0, 0) 8 0 l.length, dI k] : List D)) x.1 x.2) (fun x => (fun (l : List TFind) (k : Int) => ([((0, 0), .arr false 8 yTFind (ML encTFind l))] : List (Nm × OO))) x.1 x.2) (fun x => (fun (l : List TFind) (k : Int) => l.length ≤ 1099511627776 ∧ 0 ≤ k ∧ k ≤ 1152921504606846976) x.1 x.2) (fun x => (fun (l : List TFind) (k : Int) => (dI (k + 8 * l.length) : D)) x.1 x.2) (fun x => (fun (l : List TFind) (k : Int) => ([((0, 0), .arr false 8 yTFind (ML encTFind (mkL mk_TFind 8 k l.length)))] : List (Nm × OO))) x.1 x.2)
@[simp] theorem c29_f : c29.f = 29 := rfl
@[simp] theorem c29_own : c29.own = true := rfl
theorem c29_inj : ∀ u_ v_ : (List TFind) × Int, ((fun x => (fun (l : List TFind) (k : Int) => ([.own (0, 0) 8 0 l.length, dI k] : List D)) x.1 x.2) u_).map nz = ((fun x => (fun (l : List TFind) (k : Int) => ([.own (0, 0) 8 0 l.length, dI k] : List D)) x.1 x.2) v_).map nz → (fun x => (fun (l : List TFind) (k : Int) => ([((0, 0), .arr false 8 yTFind (ML encTFind l))] : List (Nm × OO))) x.1 x.2) u_ = (fun x => (fun (l : List TFind) (k : Int) => ([((0, 0), .arr false 8 yTFind (ML encTFind l))] : List (Nm × OO))) x.1 x.2) v_ → u_ = v_ := by
  intro u_ v_ h h2_
  obtain ⟨l, k⟩ := u_
  obtain ⟨l', k'⟩ := v_
  simp [nz_lit, nz1_lit, nz_agg, nz_sl, nz1_sl, nz_sx, nz_el, nz1_el, nz_own, nz1_own, nz_ptr, nz_fn, nz_iface] at h h2_
  first | (simp [h, h2_]; done) | simp_all | grind
@[simp] theorem c29_fn (l : List TFind) (k : Int) : c29.fn ([.own (0, 0) 8 0 l.length, dI k]) ([((0, 0), .arr false 8 yTFind (ML encTFind l))]) = some (l.length ≤ 1099511627776 ∧ 0 ≤ k ∧ k ≤ 1152921504606846976, dI (k + 8 * l.length), [((0, 0), .arr false 8 yTFind (ML encTFind (mkL mk_TFind 8 k l.length)))]) :=
  mkCon_fn c29_inj ((l, k) : (List TFind) × Int) rfl rfl
theorem c29_pc (l : List TFind) (k : Int) (hpre : l.length ≤ 1099511627776 ∧ 0 ≤ k ∧ k ≤ 1152921504606846976) : PCo Try.prog 29 ([.own (0, 0) 8 0 l.length, dI k]) (Tab.of ([((0, 0), .arr false 8 yTFind (ML encTFind l))])) (dI (k + 8 * l.length)) (Tab.of ([((0, 0), .arr false 8 yTFind (ML encTFind (mkL mk_TFind 8 k l.length)))])) := by
  refine pco_of_run [] (E := ⟨[], []⟩) (m := false) (base := 0) Env.ok_nil G_ok mix 300 6 Try.func29 (by kernel_rfl) rfl (by kernel_rfl) (by kernel_rfl) rfl ?_
  simp [Try.f29]
  obtain ⟨pre1, pre2, pre3⟩ := hpre
  refine loop_inv (fun p : Nat => p ≤ l.length) (fun p => [(0, .own (0, 0) 8 0 l.length), (1, dI (k + 8 * p)), (5, dI p)]) (fun p => [((0, 0), .arr false 8 yTFind (ML encTFind (mkL mk_TFind 8 k p ++ l.drop p)))]) 2 (fun p => l.length - p) 0 100 (by simp) (by simp) (by simp) ?_
  intro p hp
  simp
  have hs : ∀ x, x = mk_TFind (k + 8 * (p : Int)) → p < l.length → mkL mk_TFind 8 k p ++ (l.drop p).set 0 x = mkL mk_TFind 8 k (p + 1) ++ l.drop (p + 1) := fun x hx hlt => mark_step0 hlt hx
  refine ⟨fun hlt => ?_, fun hge => ?_⟩
  · repeat' (first | omega | refine And.intro ?_ ?_ | intro _)
    all_goals refine Again.mk (p + 1) (by omega) ?_ (by first | omega | (simp; omega))
    all_goals (rw [hs _ (by simp [mark_get0 hlt, mark_get hlt]; first | done | omega) hlt]; simp; omega)
  have : p = l.length := by omega
  subst this
  simp
  trace_state
theorem c29_ok : c29.ok Try.prog := mkCon_ok fun ⟨l, k⟩ hpre => c29_pc l k hpre
end Go.Proofs.Ytkccphdoolpmaaa
