/- Contracts of the functions that the laws run. -/
import Derived.Test.Ytpnfkjbnhholfaach04
import Derived.Test.YtpnfkjbnhholfaaEngB
namespace Go.Proofs.Ytpnfkjbnhholfaa
open Go Go.Eng
set_option linter.unusedSimpArgs false
set_option linter.unusedVariables false
set_option maxRecDepth 10000
set_option maxHeartbeats 1000000
def mIsFind (f : TFind) : Bool := mIsThing f.Thing && mIn f.Place 1 30 && mIn f.At 0 100000 && mIn f.Finder 0 999
/-- loop.example/g03007/impl.findChecks$1 -/
noncomputable def c187 : Con := mkCon 187 false (α := TFind) (fun x => (fun (f : TFind) => [encTFind f]) x) (fun _ => []) (fun x => (fun (f : TFind) => True) x) (fun x => (fun (f : TFind) => (dB (mIsThing f.Thing) : D)) x) (fun x => (fun (f : TFind) => []) x)
@[simp] theorem c187_f : c187.f = 187 := rfl
@[simp] theorem c187_own : c187.own = false := rfl
theorem c187_inj : ∀ u_ v_ : TFind, ((fun x => (fun (f : TFind) => [encTFind f]) x) u_).map nz = ((fun x => (fun (f : TFind) => [encTFind f]) x) v_).map nz → u_ = v_ := by
  intro u_ v_ h
  obtain ⟨⟨f_Thing_Id, f_Thing_Kind, f_Thing_Colour, f_Thing_Size, f_Thing_Worth⟩, f_Place, f_At, f_Finder⟩ := u_
  obtain ⟨⟨f_Thing_Id', f_Thing_Kind', f_Thing_Colour', f_Thing_Size', f_Thing_Worth'⟩, f_Place', f_At', f_Finder'⟩ := v_
  simp [nz_lit, nz1_lit, nz_agg, nz_sl, nz1_sl, encTFind, encTThing] at h
  first | (simp [h]; done) | (obtain ⟨⟩ := h; simp_all; done) | simp_all
@[simp] theorem c187_fn (f_Thing_Id : Int) (f_Thing_Kind : Int) (f_Thing_Colour : Int) (f_Thing_Size : Int) (f_Thing_Worth : Int) (f_Place : Int) (f_At : Int) (f_Finder : Int) : c187.fn [.agg [.lit (.int .i64 f_Thing_Id), .lit (.int .i64 f_Thing_Kind), .lit (.int .i64 f_Thing_Colour), .lit (.int .i64 f_Thing_Size), .lit (.int .i64 f_Thing_Worth), .lit (.int .i64 f_Place), .lit (.int .i64 f_At), .lit (.int .i64 f_Finder)]] [] = some ((fun (f : TFind) => True) ⟨⟨f_Thing_Id, f_Thing_Kind, f_Thing_Colour, f_Thing_Size, f_Thing_Worth⟩, f_Place, f_At, f_Finder⟩, (fun (f : TFind) => (dB (mIsThing f.Thing) : D)) ⟨⟨f_Thing_Id, f_Thing_Kind, f_Thing_Colour, f_Thing_Size, f_Thing_Worth⟩, f_Place, f_At, f_Finder⟩, (fun (f : TFind) => []) ⟨⟨f_Thing_Id, f_Thing_Kind, f_Thing_Colour, f_Thing_Size, f_Thing_Worth⟩, f_Place, f_At, f_Finder⟩) :=
  mkCon_fn (fun x y h _ => c187_inj x y h) (⟨⟨f_Thing_Id, f_Thing_Kind, f_Thing_Colour, f_Thing_Size, f_Thing_Worth⟩, f_Place, f_At, f_Finder⟩ : TFind) (by simp [nz, nz1, ML_nil, encTFind, encTThing]) rfl
theorem c187_pc (f : TFind) : PCo Try.prog 187 [encTFind f] (Tab.of []) (dB (mIsThing f.Thing)) (Tab.of []) := by
  obtain ⟨⟨f_Thing_Id, f_Thing_Kind, f_Thing_Colour, f_Thing_Size, f_Thing_Worth⟩, f_Place, f_At, f_Finder⟩ := f
  refine pco_of_run [] (E := ⟨[c113], [], []⟩) (m := false) (base := 0) (Env.ok_cons c113_ok Env.ok_nil) G_ok mix 300 6 Try.func187 (by kernel_rfl) rfl (by kernel_rfl) (by kernel_rfl) rfl ?_
  simp [Try.f187]
  all_goals first | omega | (rw [Bool.eq_iff_iff]; simp; omega) | grind
theorem c187_ok : c187.ok Try.prog := mkCon_ok fun f hpre => c187_pc f
/-- loop.example/g03007/impl.findChecks$2 -/
noncomputable def c188 : Con := mkCon 188 false (α := TFind) (fun x => (fun (f : TFind) => [encTFind f]) x) (fun _ => []) (fun x => (fun (f : TFind) => True) x) (fun x => (fun (f : TFind) => (dB (mIn f.Place 1 30) : D)) x) (fun x => (fun (f : TFind) => []) x)
@[simp] theorem c188_f : c188.f = 188 := rfl
@[simp] theorem c188_own : c188.own = false := rfl
theorem c188_inj : ∀ u_ v_ : TFind, ((fun x => (fun (f : TFind) => [encTFind f]) x) u_).map nz = ((fun x => (fun (f : TFind) => [encTFind f]) x) v_).map nz → u_ = v_ := by
  intro u_ v_ h
  obtain ⟨⟨f_Thing_Id, f_Thing_Kind, f_Thing_Colour, f_Thing_Size, f_Thing_Worth⟩, f_Place, f_At, f_Finder⟩ := u_
  obtain ⟨⟨f_Thing_Id', f_Thing_Kind', f_Thing_Colour', f_Thing_Size', f_Thing_Worth'⟩, f_Place', f_At', f_Finder'⟩ := v_
  simp [nz_lit, nz1_lit, nz_agg, nz_sl, nz1_sl, encTFind, encTThing] at h
  first | (simp [h]; done) | (obtain ⟨⟩ := h; simp_all; done) | simp_all
@[simp] theorem c188_fn (f_Thing_Id : Int) (f_Thing_Kind : Int) (f_Thing_Colour : Int) (f_Thing_Size : Int) (f_Thing_Worth : Int) (f_Place : Int) (f_At : Int) (f_Finder : Int) : c188.fn [.agg [.lit (.int .i64 f_Thing_Id), .lit (.int .i64 f_Thing_Kind), .lit (.int .i64 f_Thing_Colour), .lit (.int .i64 f_Thing_Size), .lit (.int .i64 f_Thing_Worth), .lit (.int .i64 f_Place), .lit (.int .i64 f_At), .lit (.int .i64 f_Finder)]] [] = some ((fun (f : TFind) => True) ⟨⟨f_Thing_Id, f_Thing_Kind, f_Thing_Colour, f_Thing_Size, f_Thing_Worth⟩, f_Place, f_At, f_Finder⟩, (fun (f : TFind) => (dB (mIn f.Place 1 30) : D)) ⟨⟨f_Thing_Id, f_Thing_Kind, f_Thing_Colour, f_Thing_Size, f_Thing_Worth⟩, f_Place, f_At, f_Finder⟩, (fun (f : TFind) => []) ⟨⟨f_Thing_Id, f_Thing_Kind, f_Thing_Colour, f_Thing_Size, f_Thing_Worth⟩, f_Place, f_At, f_Finder⟩) :=
  mkCon_fn (fun x y h _ => c188_inj x y h) (⟨⟨f_Thing_Id, f_Thing_Kind, f_Thing_Colour, f_Thing_Size, f_Thing_Worth⟩, f_Place, f_At, f_Finder⟩ : TFind) (by simp [nz, nz1, ML_nil, encTFind, encTThing]) rfl
theorem c188_pc (f : TFind) : PCo Try.prog 188 [encTFind f] (Tab.of []) (dB (mIn f.Place 1 30)) (Tab.of []) := by
  obtain ⟨⟨f_Thing_Id, f_Thing_Kind, f_Thing_Colour, f_Thing_Size, f_Thing_Worth⟩, f_Place, f_At, f_Finder⟩ := f
  refine pco_of_run [] (E := ⟨[c84], [], []⟩) (m := false) (base := 0) (Env.ok_cons c84_ok Env.ok_nil) G_ok mix 300 6 Try.func188 (by kernel_rfl) rfl (by kernel_rfl) (by kernel_rfl) rfl ?_
  simp [Try.f188]
  all_goals first | omega | (rw [Bool.eq_iff_iff]; simp; omega) | grind
theorem c188_ok : c188.ok Try.prog := mkCon_ok fun f hpre => c188_pc f
/-- loop.example/g03007/impl.findChecks$3 -/
noncomputable def c189 : Con := mkCon 189 false (α := TFind) (fun x => (fun (f : TFind) => [encTFind f]) x) (fun _ => []) (fun x => (fun (f : TFind) => True) x) (fun x => (fun (f : TFind) => (dB (mIn f.At 0 100000) : D)) x) (fun x => (fun (f : TFind) => []) x)
@[simp] theorem c189_f : c189.f = 189 := rfl
@[simp] theorem c189_own : c189.own = false := rfl
theorem c189_inj : ∀ u_ v_ : TFind, ((fun x => (fun (f : TFind) => [encTFind f]) x) u_).map nz = ((fun x => (fun (f : TFind) => [encTFind f]) x) v_).map nz → u_ = v_ := by
  intro u_ v_ h
  obtain ⟨⟨f_Thing_Id, f_Thing_Kind, f_Thing_Colour, f_Thing_Size, f_Thing_Worth⟩, f_Place, f_At, f_Finder⟩ := u_
  obtain ⟨⟨f_Thing_Id', f_Thing_Kind', f_Thing_Colour', f_Thing_Size', f_Thing_Worth'⟩, f_Place', f_At', f_Finder'⟩ := v_
  simp [nz_lit, nz1_lit, nz_agg, nz_sl, nz1_sl, encTFind, encTThing] at h
  first | (simp [h]; done) | (obtain ⟨⟩ := h; simp_all; done) | simp_all
@[simp] theorem c189_fn (f_Thing_Id : Int) (f_Thing_Kind : Int) (f_Thing_Colour : Int) (f_Thing_Size : Int) (f_Thing_Worth : Int) (f_Place : Int) (f_At : Int) (f_Finder : Int) : c189.fn [.agg [.lit (.int .i64 f_Thing_Id), .lit (.int .i64 f_Thing_Kind), .lit (.int .i64 f_Thing_Colour), .lit (.int .i64 f_Thing_Size), .lit (.int .i64 f_Thing_Worth), .lit (.int .i64 f_Place), .lit (.int .i64 f_At), .lit (.int .i64 f_Finder)]] [] = some ((fun (f : TFind) => True) ⟨⟨f_Thing_Id, f_Thing_Kind, f_Thing_Colour, f_Thing_Size, f_Thing_Worth⟩, f_Place, f_At, f_Finder⟩, (fun (f : TFind) => (dB (mIn f.At 0 100000) : D)) ⟨⟨f_Thing_Id, f_Thing_Kind, f_Thing_Colour, f_Thing_Size, f_Thing_Worth⟩, f_Place, f_At, f_Finder⟩, (fun (f : TFind) => []) ⟨⟨f_Thing_Id, f_Thing_Kind, f_Thing_Colour, f_Thing_Size, f_Thing_Worth⟩, f_Place, f_At, f_Finder⟩) :=
  mkCon_fn (fun x y h _ => c189_inj x y h) (⟨⟨f_Thing_Id, f_Thing_Kind, f_Thing_Colour, f_Thing_Size, f_Thing_Worth⟩, f_Place, f_At, f_Finder⟩ : TFind) (by simp [nz, nz1, ML_nil, encTFind, encTThing]) rfl
theorem c189_pc (f : TFind) : PCo Try.prog 189 [encTFind f] (Tab.of []) (dB (mIn f.At 0 100000)) (Tab.of []) := by
  obtain ⟨⟨f_Thing_Id, f_Thing_Kind, f_Thing_Colour, f_Thing_Size, f_Thing_Worth⟩, f_Place, f_At, f_Finder⟩ := f
  refine pco_of_run [] (E := ⟨[c84], [], []⟩) (m := false) (base := 0) (Env.ok_cons c84_ok Env.ok_nil) G_ok mix 300 6 Try.func189 (by kernel_rfl) rfl (by kernel_rfl) (by kernel_rfl) rfl ?_
  simp [Try.f189]
  all_goals first | omega | (rw [Bool.eq_iff_iff]; simp; omega) | grind
theorem c189_ok : c189.ok Try.prog := mkCon_ok fun f hpre => c189_pc f
/-- loop.example/g03007/impl.findChecks$4 -/
noncomputable def c190 : Con := mkCon 190 false (α := TFind) (fun x => (fun (f : TFind) => [encTFind f]) x) (fun _ => []) (fun x => (fun (f : TFind) => True) x) (fun x => (fun (f : TFind) => (dB (mIn f.Finder 0 999) : D)) x) (fun x => (fun (f : TFind) => []) x)
@[simp] theorem c190_f : c190.f = 190 := rfl
@[simp] theorem c190_own : c190.own = false := rfl
theorem c190_inj : ∀ u_ v_ : TFind, ((fun x => (fun (f : TFind) => [encTFind f]) x) u_).map nz = ((fun x => (fun (f : TFind) => [encTFind f]) x) v_).map nz → u_ = v_ := by
  intro u_ v_ h
  obtain ⟨⟨f_Thing_Id, f_Thing_Kind, f_Thing_Colour, f_Thing_Size, f_Thing_Worth⟩, f_Place, f_At, f_Finder⟩ := u_
  obtain ⟨⟨f_Thing_Id', f_Thing_Kind', f_Thing_Colour', f_Thing_Size', f_Thing_Worth'⟩, f_Place', f_At', f_Finder'⟩ := v_
  simp [nz_lit, nz1_lit, nz_agg, nz_sl, nz1_sl, encTFind, encTThing] at h
  first | (simp [h]; done) | (obtain ⟨⟩ := h; simp_all; done) | simp_all
@[simp] theorem c190_fn (f_Thing_Id : Int) (f_Thing_Kind : Int) (f_Thing_Colour : Int) (f_Thing_Size : Int) (f_Thing_Worth : Int) (f_Place : Int) (f_At : Int) (f_Finder : Int) : c190.fn [.agg [.lit (.int .i64 f_Thing_Id), .lit (.int .i64 f_Thing_Kind), .lit (.int .i64 f_Thing_Colour), .lit (.int .i64 f_Thing_Size), .lit (.int .i64 f_Thing_Worth), .lit (.int .i64 f_Place), .lit (.int .i64 f_At), .lit (.int .i64 f_Finder)]] [] = some ((fun (f : TFind) => True) ⟨⟨f_Thing_Id, f_Thing_Kind, f_Thing_Colour, f_Thing_Size, f_Thing_Worth⟩, f_Place, f_At, f_Finder⟩, (fun (f : TFind) => (dB (mIn f.Finder 0 999) : D)) ⟨⟨f_Thing_Id, f_Thing_Kind, f_Thing_Colour, f_Thing_Size, f_Thing_Worth⟩, f_Place, f_At, f_Finder⟩, (fun (f : TFind) => []) ⟨⟨f_Thing_Id, f_Thing_Kind, f_Thing_Colour, f_Thing_Size, f_Thing_Worth⟩, f_Place, f_At, f_Finder⟩) :=
  mkCon_fn (fun x y h _ => c190_inj x y h) (⟨⟨f_Thing_Id, f_Thing_Kind, f_Thing_Colour, f_Thing_Size, f_Thing_Worth⟩, f_Place, f_At, f_Finder⟩ : TFind) (by simp [nz, nz1, ML_nil, encTFind, encTThing]) rfl
theorem c190_pc (f : TFind) : PCo Try.prog 190 [encTFind f] (Tab.of []) (dB (mIn f.Finder 0 999)) (Tab.of []) := by
  obtain ⟨⟨f_Thing_Id, f_Thing_Kind, f_Thing_Colour, f_Thing_Size, f_Thing_Worth⟩, f_Place, f_At, f_Finder⟩ := f
  refine pco_of_run [] (E := ⟨[c84], [], []⟩) (m := false) (base := 0) (Env.ok_cons c84_ok Env.ok_nil) G_ok mix 300 6 Try.func190 (by kernel_rfl) rfl (by kernel_rfl) (by kernel_rfl) rfl ?_
  simp [Try.f190]
  all_goals first | omega | (rw [Bool.eq_iff_iff]; simp; omega) | grind
theorem c190_ok : c190.ok Try.prog := mkCon_ok fun f hpre => c190_pc f
/-- loop.example/g03007/impl.findChecks -/
noncomputable def c147 : Con := mkCon 147 false (α := Unit) (fun _ => []) (fun _ => []) (fun _ => True) (fun _ => (.agg [.fn (.func 187) [] [], .fn (.func 188) [] [], .fn (.func 189) [] [], .fn (.func 190) [] []] : D)) (fun _ => [])
@[simp] theorem c147_f : c147.f = 147 := rfl
@[simp] theorem c147_own : c147.own = false := rfl
theorem c147_inj : ∀ x y : Unit, ((fun _ => []) x).map nz = ((fun _ => []) y).map nz → x = y := fun _ _ _ => rfl
@[simp] theorem c147_fn : c147.fn [] [] = some (True, (.agg [.fn (.func 187) [] [], .fn (.func 188) [] [], .fn (.func 189) [] [], .fn (.func 190) [] []] : D), []) :=
  mkCon_fn (fun x y h _ => c147_inj x y h) (() : Unit) (by simp [nz, nz1, ML_nil]) rfl
theorem c147_pc  : PCo Try.prog 147 [] (Tab.of []) (.agg [.fn (.func 187) [] [], .fn (.func 188) [] [], .fn (.func 189) [] [], .fn (.func 190) [] []]) (Tab.of []) := by
  refine pco_of_run [] (E := ⟨[c187, c188, c189, c190], [], []⟩) (m := false) (base := 0) (Env.ok_cons c187_ok (Env.ok_cons c188_ok (Env.ok_cons c189_ok (Env.ok_cons c190_ok Env.ok_nil)))) G_ok mix 300 6 Try.func147 (by kernel_rfl) rfl (by kernel_rfl) (by kernel_rfl) rfl ?_
  simp [Try.f147]
  all_goals first | omega | (rw [Bool.eq_iff_iff]; simp; omega) | grind
theorem c147_ok : c147.ok Try.prog := mkCon_ok fun _ hpre => c147_pc 
/-- loop.example/g03007/impl.IsFind -/
noncomputable def c77 : Con := mkCon 77 false (α := TFind) (fun x => (fun (f : TFind) => [encTFind f]) x) (fun _ => []) (fun x => (fun (f : TFind) => True) x) (fun x => (fun (f : TFind) => (dB (mIsFind f) : D)) x) (fun x => (fun (f : TFind) => []) x)
@[simp] theorem c77_f : c77.f = 77 := rfl
@[simp] theorem c77_own : c77.own = false := rfl
theorem c77_inj : ∀ u_ v_ : TFind, ((fun x => (fun (f : TFind) => [encTFind f]) x) u_).map nz = ((fun x => (fun (f : TFind) => [encTFind f]) x) v_).map nz → u_ = v_ := by
  intro u_ v_ h
  obtain ⟨⟨f_Thing_Id, f_Thing_Kind, f_Thing_Colour, f_Thing_Size, f_Thing_Worth⟩, f_Place, f_At, f_Finder⟩ := u_
  obtain ⟨⟨f_Thing_Id', f_Thing_Kind', f_Thing_Colour', f_Thing_Size', f_Thing_Worth'⟩, f_Place', f_At', f_Finder'⟩ := v_
  simp [nz_lit, nz1_lit, nz_agg, nz_sl, nz1_sl, encTFind, encTThing] at h
  first | (simp [h]; done) | (obtain ⟨⟩ := h; simp_all; done) | simp_all
@[simp] theorem c77_fn (f_Thing_Id : Int) (f_Thing_Kind : Int) (f_Thing_Colour : Int) (f_Thing_Size : Int) (f_Thing_Worth : Int) (f_Place : Int) (f_At : Int) (f_Finder : Int) : c77.fn [.agg [.lit (.int .i64 f_Thing_Id), .lit (.int .i64 f_Thing_Kind), .lit (.int .i64 f_Thing_Colour), .lit (.int .i64 f_Thing_Size), .lit (.int .i64 f_Thing_Worth), .lit (.int .i64 f_Place), .lit (.int .i64 f_At), .lit (.int .i64 f_Finder)]] [] = some ((fun (f : TFind) => True) ⟨⟨f_Thing_Id, f_Thing_Kind, f_Thing_Colour, f_Thing_Size, f_Thing_Worth⟩, f_Place, f_At, f_Finder⟩, (fun (f : TFind) => (dB (mIsFind f) : D)) ⟨⟨f_Thing_Id, f_Thing_Kind, f_Thing_Colour, f_Thing_Size, f_Thing_Worth⟩, f_Place, f_At, f_Finder⟩, (fun (f : TFind) => []) ⟨⟨f_Thing_Id, f_Thing_Kind, f_Thing_Colour, f_Thing_Size, f_Thing_Worth⟩, f_Place, f_At, f_Finder⟩) :=
  mkCon_fn (fun x y h _ => c77_inj x y h) (⟨⟨f_Thing_Id, f_Thing_Kind, f_Thing_Colour, f_Thing_Size, f_Thing_Worth⟩, f_Place, f_At, f_Finder⟩ : TFind) (by simp [nz, nz1, ML_nil, encTFind, encTThing]) rfl
theorem c77_pc (f : TFind) : PCo Try.prog 77 [encTFind f] (Tab.of []) (dB (mIsFind f)) (Tab.of []) := by
  obtain ⟨⟨f_Thing_Id, f_Thing_Kind, f_Thing_Colour, f_Thing_Size, f_Thing_Worth⟩, f_Place, f_At, f_Finder⟩ := f
  refine pco_of_run [] (E := ⟨[c147, c187, c188, c189, c190], [], []⟩) (m := false) (base := 0) (Env.ok_cons c147_ok (Env.ok_cons c187_ok (Env.ok_cons c188_ok (Env.ok_cons c189_ok (Env.ok_cons c190_ok Env.ok_nil))))) G_ok mix 300 6 Try.func77 (by kernel_rfl) rfl (by kernel_rfl) (by kernel_rfl) rfl ?_
  simp [Try.f77]
  refine loop_unroll 400 ?_
  simp [mIsFind]
  grind
theorem c77_ok : c77.ok Try.prog := mkCon_ok fun f hpre => c77_pc f
@[simp] def nFind (f : TFind) : Int := f.Thing.Id
def mAreFinds (l : List TFind) : Bool := decide (l.length ≤ 20) && ascBy mIsFind nFind none l
/-- loop.example/g03007/impl.findsInOrder -/
noncomputable def c74 : Con := mkCon 74 false (α := (List TFind)) (fun x => (fun (l : List TFind) => [encLTFind l]) x) (fun _ => []) (fun x => (fun (l : List TFind) => True) x) (fun x => (fun (l : List TFind) => (.agg [.sl false 8 yTFind (ML encTFind l), .fn (.func 144) [] []] : D)) x) (fun x => (fun (l : List TFind) => []) x)
@[simp] theorem c74_f : c74.f = 74 := rfl
@[simp] theorem c74_own : c74.own = false := rfl
theorem c74_inj : ∀ u_ v_ : (List TFind), ((fun x => (fun (l : List TFind) => [encLTFind l]) x) u_).map nz = ((fun x => (fun (l : List TFind) => [encLTFind l]) x) v_).map nz → u_ = v_ := by
  intro u_ v_ h
  obtain l := u_
  obtain l' := v_
  simp [nz_lit, nz1_lit, nz_agg, nz_sl, nz1_sl, encLTFind] at h
  first | (simp [h]; done) | (obtain ⟨⟩ := h; simp_all; done) | simp_all
@[simp] theorem c74_fn (l : List TFind) : c74.fn [.sl false 8 yTFind (ML encTFind l)] [] = some ((fun (l : List TFind) => True) l, (fun (l : List TFind) => (.agg [.sl false 8 yTFind (ML encTFind l), .fn (.func 144) [] []] : D)) l, (fun (l : List TFind) => []) l) :=
  mkCon_fn (fun x y h _ => c74_inj x y h) (l : (List TFind)) (by simp [nz, nz1, ML_nil, encLTFind]) rfl
@[simp] theorem c74_fn1 (s_l : Nat) (z_l : D) : c74.fn [.sl false s_l z_l []] [] = some ((fun (l : List TFind) => True) [], (fun (l : List TFind) => (.agg [.sl false 8 yTFind (ML encTFind l), .fn (.func 144) [] []] : D)) [], (fun (l : List TFind) => []) []) :=
  mkCon_fn (fun x y h _ => c74_inj x y h) ([] : (List TFind)) (by simp [nz, nz1, ML_nil, encLTFind]) rfl
theorem c74_pc (l : List TFind) : PCo Try.prog 74 [encLTFind l] (Tab.of []) (.agg [.sl false 8 yTFind (ML encTFind l), .fn (.func 144) [] []]) (Tab.of []) := by
  refine pco_of_run [] (E := ⟨[], [], []⟩) (m := false) (base := 0) Env.ok_nil G_ok mix 300 6 Try.func74 (by kernel_rfl) rfl (by kernel_rfl) (by kernel_rfl) rfl ?_
  simp [Try.f74]
  all_goals first | omega | (rw [Bool.eq_iff_iff]; simp; omega) | grind
theorem c74_ok : c74.ok Try.prog := mkCon_ok fun l hpre => c74_pc l
/-- loop.example/g03007/impl.findsInOrder$1 -/
noncomputable def c144 : Con := mkCon 144 false (α := TFind) (fun x => (fun (x : TFind) => [encTFind x]) x) (fun _ => []) (fun x => (fun (x : TFind) => True) x) (fun x => (fun (x : TFind) => (dI (nFind x) : D)) x) (fun x => (fun (x : TFind) => []) x)
@[simp] theorem c144_f : c144.f = 144 := rfl
@[simp] theorem c144_own : c144.own = false := rfl
theorem c144_inj : ∀ u_ v_ : TFind, ((fun x => (fun (x : TFind) => [encTFind x]) x) u_).map nz = ((fun x => (fun (x : TFind) => [encTFind x]) x) v_).map nz → u_ = v_ := by
  intro u_ v_ h
  obtain ⟨⟨x_Thing_Id, x_Thing_Kind, x_Thing_Colour, x_Thing_Size, x_Thing_Worth⟩, x_Place, x_At, x_Finder⟩ := u_
  obtain ⟨⟨x_Thing_Id', x_Thing_Kind', x_Thing_Colour', x_Thing_Size', x_Thing_Worth'⟩, x_Place', x_At', x_Finder'⟩ := v_
  simp [nz_lit, nz1_lit, nz_agg, nz_sl, nz1_sl, encTFind, encTThing] at h
  first | (simp [h]; done) | (obtain ⟨⟩ := h; simp_all; done) | simp_all
@[simp] theorem c144_fn (x_Thing_Id : Int) (x_Thing_Kind : Int) (x_Thing_Colour : Int) (x_Thing_Size : Int) (x_Thing_Worth : Int) (x_Place : Int) (x_At : Int) (x_Finder : Int) : c144.fn [.agg [.lit (.int .i64 x_Thing_Id), .lit (.int .i64 x_Thing_Kind), .lit (.int .i64 x_Thing_Colour), .lit (.int .i64 x_Thing_Size), .lit (.int .i64 x_Thing_Worth), .lit (.int .i64 x_Place), .lit (.int .i64 x_At), .lit (.int .i64 x_Finder)]] [] = some ((fun (x : TFind) => True) ⟨⟨x_Thing_Id, x_Thing_Kind, x_Thing_Colour, x_Thing_Size, x_Thing_Worth⟩, x_Place, x_At, x_Finder⟩, (fun (x : TFind) => (dI (nFind x) : D)) ⟨⟨x_Thing_Id, x_Thing_Kind, x_Thing_Colour, x_Thing_Size, x_Thing_Worth⟩, x_Place, x_At, x_Finder⟩, (fun (x : TFind) => []) ⟨⟨x_Thing_Id, x_Thing_Kind, x_Thing_Colour, x_Thing_Size, x_Thing_Worth⟩, x_Place, x_At, x_Finder⟩) :=
  mkCon_fn (fun x y h _ => c144_inj x y h) (⟨⟨x_Thing_Id, x_Thing_Kind, x_Thing_Colour, x_Thing_Size, x_Thing_Worth⟩, x_Place, x_At, x_Finder⟩ : TFind) (by simp [nz, nz1, ML_nil, encTFind, encTThing]) rfl
theorem c144_pc (x : TFind) : PCo Try.prog 144 [encTFind x] (Tab.of []) (dI (nFind x)) (Tab.of []) := by
  obtain ⟨⟨x_Thing_Id, x_Thing_Kind, x_Thing_Colour, x_Thing_Size, x_Thing_Worth⟩, x_Place, x_At, x_Finder⟩ := x
  refine pco_of_run [] (E := ⟨[], [], []⟩) (m := false) (base := 0) Env.ok_nil G_ok mix 300 6 Try.func144 (by kernel_rfl) rfl (by kernel_rfl) (by kernel_rfl) rfl ?_
  simp [Try.f144]
  all_goals first | omega | (rw [Bool.eq_iff_iff]; simp; omega) | grind
theorem c144_ok : c144.ok Try.prog := mkCon_ok fun x hpre => c144_pc x
/-- (loop.example/g03007/impl.sortedList[loop.example/g03007/impl.Find]).isValid -/
noncomputable def c76 : Con := mkCon 76 false (α := (List TFind) × Int) (fun x => (fun (l : List TFind) (lim : Int) => ([.agg [.sl false 8 yTFind (ML encTFind l), .fn (.func 144) [] []], dI lim, .fn (.func 77) [] []] : List D)) x.1 x.2) (fun x => (fun (l : List TFind) (lim : Int) => ([] : List (Nm × OO))) x.1 x.2) (fun x => (fun (l : List TFind) (lim : Int) => l.length ≤ 1099511627776) x.1 x.2) (fun x => (fun (l : List TFind) (lim : Int) => (dB (decide (l.length ≤ lim) && ascBy mIsFind nFind none l) : D)) x.1 x.2) (fun x => (fun (l : List TFind) (lim : Int) => ([] : List (Nm × OO))) x.1 x.2)
@[simp] theorem c76_f : c76.f = 76 := rfl
@[simp] theorem c76_own : c76.own = false := rfl
theorem c76_inj : ∀ u_ v_ : (List TFind) × Int, ((fun x => (fun (l : List TFind) (lim : Int) => ([.agg [.sl false 8 yTFind (ML encTFind l), .fn (.func 144) [] []], dI lim, .fn (.func 77) [] []] : List D)) x.1 x.2) u_).map nz = ((fun x => (fun (l : List TFind) (lim : Int) => ([.agg [.sl false 8 yTFind (ML encTFind l), .fn (.func 144) [] []], dI lim, .fn (.func 77) [] []] : List D)) x.1 x.2) v_).map nz → (fun x => (fun (l : List TFind) (lim : Int) => ([] : List (Nm × OO))) x.1 x.2) u_ = (fun x => (fun (l : List TFind) (lim : Int) => ([] : List (Nm × OO))) x.1 x.2) v_ → u_ = v_ := by
  intro u_ v_ h h2_
  obtain ⟨l, lim⟩ := u_
  obtain ⟨l', lim'⟩ := v_
  simp [nz_lit, nz1_lit, nz_agg, nz_sl, nz1_sl, nz_sx, nz_el, nz1_el, nz_own, nz1_own, nz_ptr, nz_fn, nz_iface] at h h2_
  first | (simp [h, h2_]; done) | (obtain ⟨h3_, h4_⟩ := List.append_inj h2_ h.1; simp_all; done) | simp_all | grind
@[simp] theorem c76_fn (l : List TFind) (lim : Int) : c76.fn ([.agg [.sl false 8 yTFind (ML encTFind l), .fn (.func 144) [] []], dI lim, .fn (.func 77) [] []]) ([]) = some (l.length ≤ 1099511627776, dB (decide (l.length ≤ lim) && ascBy mIsFind nFind none l), []) :=
  mkCon_fn c76_inj ((l, lim) : (List TFind) × Int) rfl rfl
theorem c76_pc (l : List TFind) (lim : Int) (hpre : l.length ≤ 1099511627776) : PCo Try.prog 76 ([.agg [.sl false 8 yTFind (ML encTFind l), .fn (.func 144) [] []], dI lim, .fn (.func 77) [] []]) (Tab.of ([])) (dB (decide (l.length ≤ lim) && ascBy mIsFind nFind none l)) (Tab.of ([])) := by
  refine pco_of_run [6] (E := ⟨[c144, c77], [], []⟩) (m := false) (base := 0) (Env.ok_cons c144_ok (Env.ok_cons c77_ok Env.ok_nil)) G_ok mix 300 6 Try.func76 (by kernel_rfl) rfl (by kernel_rfl) (by kernel_rfl) rfl ?_
  simp [Try.f76]
  refine ⟨fun h h2 => by omega, fun hlim => ?_⟩
  refine loop_inv (fun p : Nat => p ≤ l.length ∧ ascBy mIsFind nFind none l = ascBy mIsFind nFind (prevO nFind l p) (l.drop p)) (fun p => [(2, .fn (.func 77) [] []), (3, .ptr (0, 1) 0), (6, dB false), (15, .sl false 8 yTFind (ML encTFind l)), (16, dI l.length), (17, dI p)]) (fun _ => [((0, 1), .box (.agg [.sl false 8 yTFind (ML encTFind l), .fn (.func 144) [] []]))]) 2 (fun p => l.length - p) 0 400 (by simp) (by simp) (by simp) ?_
  intro p ⟨hp, hi⟩
  simp
  refine ⟨fun hlt => ?_, fun hge => ?_⟩
  · rw [ascBy_at hlt] at hi; simp only [nFind, wantN] at hi
    repeat' (first | omega | refine And.intro ?_ ?_ | intro _)
    all_goals first | exact Again.mk (p + 1) ⟨by omega, by rw [hi]; grind⟩ (by simp) (by first | omega | (simp; omega)) | (rw [hi]; grind)
  · rw [hi, ascBy_end hge]; simp; omega
theorem c76_ok : c76.ok Try.prog := mkCon_ok fun ⟨l, lim⟩ hpre => c76_pc l lim hpre
/-- loop.example/g03007/impl.AreFinds -/
noncomputable def c12 : Con := mkCon 12 false (α := (List TFind)) (fun x => (fun (l : List TFind) => [encLTFind l]) x) (fun _ => []) (fun x => (fun (l : List TFind) => l.length ≤ 1099511627776) x) (fun x => (fun (l : List TFind) => (dB (mAreFinds l) : D)) x) (fun x => (fun (l : List TFind) => []) x)
@[simp] theorem c12_f : c12.f = 12 := rfl
@[simp] theorem c12_own : c12.own = false := rfl
theorem c12_inj : ∀ u_ v_ : (List TFind), ((fun x => (fun (l : List TFind) => [encLTFind l]) x) u_).map nz = ((fun x => (fun (l : List TFind) => [encLTFind l]) x) v_).map nz → u_ = v_ := by
  intro u_ v_ h
  obtain l := u_
  obtain l' := v_
  simp [nz_lit, nz1_lit, nz_agg, nz_sl, nz1_sl, encLTFind] at h
  first | (simp [h]; done) | (obtain ⟨⟩ := h; simp_all; done) | simp_all
@[simp] theorem c12_fn (l : List TFind) : c12.fn [.sl false 8 yTFind (ML encTFind l)] [] = some ((fun (l : List TFind) => l.length ≤ 1099511627776) l, (fun (l : List TFind) => (dB (mAreFinds l) : D)) l, (fun (l : List TFind) => []) l) :=
  mkCon_fn (fun x y h _ => c12_inj x y h) (l : (List TFind)) (by simp [nz, nz1, ML_nil, encLTFind]) rfl
@[simp] theorem c12_fn1 (s_l : Nat) (z_l : D) : c12.fn [.sl false s_l z_l []] [] = some ((fun (l : List TFind) => l.length ≤ 1099511627776) [], (fun (l : List TFind) => (dB (mAreFinds l) : D)) [], (fun (l : List TFind) => []) []) :=
  mkCon_fn (fun x y h _ => c12_inj x y h) ([] : (List TFind)) (by simp [nz, nz1, ML_nil, encLTFind]) rfl
theorem c12_pc (l : List TFind) (hpre : l.length ≤ 1099511627776) : PCo Try.prog 12 [encLTFind l] (Tab.of []) (dB (mAreFinds l)) (Tab.of []) := by
  refine pco_of_run [] (E := ⟨[c74, c76, c77, c77], [], []⟩) (m := false) (base := 0) (Env.ok_cons c74_ok (Env.ok_cons c76_ok (Env.ok_cons c77_ok (Env.ok_cons c77_ok Env.ok_nil)))) G_ok mix 300 6 Try.func12 (by kernel_rfl) rfl (by kernel_rfl) (by kernel_rfl) rfl ?_
  simp [Try.f12]
  have h : ((l.length : Int) ≤ 20) ↔ l.length ≤ 20 := by omega
  simp [mAreFinds, h, hpre]
theorem c12_ok : c12.ok Try.prog := mkCon_ok fun l hpre => c12_pc l hpre
/-- (loop.example/g03007/impl.sortedList[loop.example/g03007/impl.Find]).indexOf$1 -/
noncomputable def c148 : Con := mkCon 148 false (α := TFind × (List TFind) × Int) (fun x => (fun (x : TFind) (l : List TFind) (n : Int) => ([encTFind x, .el (.agg [.sl false 8 yTFind (ML encTFind l), .fn (.func 144) [] []]), .el (dI n)] : List D)) x.1 x.2.1 x.2.2) (fun x => (fun (x : TFind) (l : List TFind) (n : Int) => ([] : List (Nm × OO))) x.1 x.2.1 x.2.2) (fun x => (fun (x : TFind) (l : List TFind) (n : Int) => True) x.1 x.2.1 x.2.2) (fun x => (fun (x : TFind) (l : List TFind) (n : Int) => (dB (wantN nFind n x) : D)) x.1 x.2.1 x.2.2) (fun x => (fun (x : TFind) (l : List TFind) (n : Int) => ([] : List (Nm × OO))) x.1 x.2.1 x.2.2)
@[simp] theorem c148_f : c148.f = 148 := rfl
@[simp] theorem c148_own : c148.own = false := rfl
theorem c148_inj : ∀ u_ v_ : TFind × (List TFind) × Int, ((fun x => (fun (x : TFind) (l : List TFind) (n : Int) => ([encTFind x, .el (.agg [.sl false 8 yTFind (ML encTFind l), .fn (.func 144) [] []]), .el (dI n)] : List D)) x.1 x.2.1 x.2.2) u_).map nz = ((fun x => (fun (x : TFind) (l : List TFind) (n : Int) => ([encTFind x, .el (.agg [.sl false 8 yTFind (ML encTFind l), .fn (.func 144) [] []]), .el (dI n)] : List D)) x.1 x.2.1 x.2.2) v_).map nz → (fun x => (fun (x : TFind) (l : List TFind) (n : Int) => ([] : List (Nm × OO))) x.1 x.2.1 x.2.2) u_ = (fun x => (fun (x : TFind) (l : List TFind) (n : Int) => ([] : List (Nm × OO))) x.1 x.2.1 x.2.2) v_ → u_ = v_ := by
  intro u_ v_ h h2_
  obtain ⟨⟨⟨x_Thing_Id, x_Thing_Kind, x_Thing_Colour, x_Thing_Size, x_Thing_Worth⟩, x_Place, x_At, x_Finder⟩, l, n⟩ := u_
  obtain ⟨⟨⟨x_Thing_Id', x_Thing_Kind', x_Thing_Colour', x_Thing_Size', x_Thing_Worth'⟩, x_Place', x_At', x_Finder'⟩, l', n'⟩ := v_
  simp [nz_lit, nz1_lit, nz_agg, nz_sl, nz1_sl, nz_sx, nz_el, nz1_el, nz_own, nz1_own, nz_ptr, nz_fn, nz_iface] at h h2_
  first | (simp [h, h2_]; done) | (obtain ⟨h3_, h4_⟩ := List.append_inj h2_ h.1; simp_all; done) | simp_all | grind
@[simp] theorem c148_fn (x_Thing_Id : Int) (x_Thing_Kind : Int) (x_Thing_Colour : Int) (x_Thing_Size : Int) (x_Thing_Worth : Int) (x_Place : Int) (x_At : Int) (x_Finder : Int) (l : List TFind) (n : Int) : c148.fn ([.agg [.lit (.int .i64 x_Thing_Id), .lit (.int .i64 x_Thing_Kind), .lit (.int .i64 x_Thing_Colour), .lit (.int .i64 x_Thing_Size), .lit (.int .i64 x_Thing_Worth), .lit (.int .i64 x_Place), .lit (.int .i64 x_At), .lit (.int .i64 x_Finder)], .el (.agg [.sl false 8 yTFind (ML encTFind l), .fn (.func 144) [] []]), .el (dI n)]) ([]) = some (True, dB (wantN nFind n (⟨⟨x_Thing_Id, x_Thing_Kind, x_Thing_Colour, x_Thing_Size, x_Thing_Worth⟩, x_Place, x_At, x_Finder⟩ : TFind)), []) :=
  mkCon_fn c148_inj ((⟨⟨x_Thing_Id, x_Thing_Kind, x_Thing_Colour, x_Thing_Size, x_Thing_Worth⟩, x_Place, x_At, x_Finder⟩, l, n) : TFind × (List TFind) × Int) rfl rfl
theorem c148_pc (x : TFind) (l : List TFind) (n : Int) : PCo Try.prog 148 ([encTFind x, .el (.agg [.sl false 8 yTFind (ML encTFind l), .fn (.func 144) [] []]), .el (dI n)]) (Tab.of ([])) (dB (wantN nFind n x)) (Tab.of ([])) := by
  refine pco_of_run [1] (E := ⟨[c144], [], []⟩) (m := false) (base := 0) (Env.ok_cons c144_ok Env.ok_nil) G_ok mix 300 6 Try.func148 (by kernel_rfl) rfl (by kernel_rfl) (by kernel_rfl) rfl ?_
  simp [Try.f148]
  simp [wantN]; first | done | rfl
theorem c148_ok : c148.ok Try.prog := mkCon_ok fun ⟨x, l, n⟩ hpre => c148_pc x l n
/-- slices.IndexFunc[[]loop.example/g03007/impl.Fin -/
noncomputable def c145_i : Con := mkCon 145 false (α := (List TFind) × (List TFind) × Int) (fun x => (fun (l : List TFind) (l2 : List TFind) (n : Int) => ([.sl false 8 yTFind (ML encTFind l), .fn (.func 148) [] [.el (.agg [.sl false 8 yTFind (ML encTFind l2), .fn (.func 144) [] []]), .el (dI n)]] : List D)) x.1 x.2.1 x.2.2) (fun x => (fun (l : List TFind) (l2 : List TFind) (n : Int) => ([] : List (Nm × OO))) x.1 x.2.1 x.2.2) (fun x => (fun (l : List TFind) (l2 : List TFind) (n : Int) => l.length ≤ 1099511627776) x.1 x.2.1 x.2.2) (fun x => (fun (l : List TFind) (l2 : List TFind) (n : Int) => (dI (indexBy (wantN nFind n) 0 l) : D)) x.1 x.2.1 x.2.2) (fun x => (fun (l : List TFind) (l2 : List TFind) (n : Int) => ([] : List (Nm × OO))) x.1 x.2.1 x.2.2)
@[simp] theorem c145_i_f : c145_i.f = 145 := rfl
@[simp] theorem c145_i_own : c145_i.own = false := rfl
theorem c145_i_inj : ∀ u_ v_ : (List TFind) × (List TFind) × Int, ((fun x => (fun (l : List TFind) (l2 : List TFind) (n : Int) => ([.sl false 8 yTFind (ML encTFind l), .fn (.func 148) [] [.el (.agg [.sl false 8 yTFind (ML encTFind l2), .fn (.func 144) [] []]), .el (dI n)]] : List D)) x.1 x.2.1 x.2.2) u_).map nz = ((fun x => (fun (l : List TFind) (l2 : List TFind) (n : Int) => ([.sl false 8 yTFind (ML encTFind l), .fn (.func 148) [] [.el (.agg [.sl false 8 yTFind (ML encTFind l2), .fn (.func 144) [] []]), .el (dI n)]] : List D)) x.1 x.2.1 x.2.2) v_).map nz → (fun x => (fun (l : List TFind) (l2 : List TFind) (n : Int) => ([] : List (Nm × OO))) x.1 x.2.1 x.2.2) u_ = (fun x => (fun (l : List TFind) (l2 : List TFind) (n : Int) => ([] : List (Nm × OO))) x.1 x.2.1 x.2.2) v_ → u_ = v_ := by
  intro u_ v_ h h2_
  obtain ⟨l, l2, n⟩ := u_
  obtain ⟨l', l2', n'⟩ := v_
  simp [nz_lit, nz1_lit, nz_agg, nz_sl, nz1_sl, nz_sx, nz_el, nz1_el, nz_own, nz1_own, nz_ptr, nz_fn, nz_iface] at h h2_
  first | (simp [h, h2_]; done) | (obtain ⟨h3_, h4_⟩ := List.append_inj h2_ h.1; simp_all; done) | simp_all | grind
@[simp] theorem c145_i_fn (l : List TFind) (l2 : List TFind) (n : Int) : c145_i.fn ([.sl false 8 yTFind (ML encTFind l), .fn (.func 148) [] [.el (.agg [.sl false 8 yTFind (ML encTFind l2), .fn (.func 144) [] []]), .el (dI n)]]) ([]) = some (l.length ≤ 1099511627776, dI (indexBy (wantN nFind n) 0 l), []) :=
  mkCon_fn c145_i_inj ((l, l2, n) : (List TFind) × (List TFind) × Int) rfl rfl
theorem c145_i_pc (l : List TFind) (l2 : List TFind) (n : Int) (hpre : l.length ≤ 1099511627776) : PCo Try.prog 145 ([.sl false 8 yTFind (ML encTFind l), .fn (.func 148) [] [.el (.agg [.sl false 8 yTFind (ML encTFind l2), .fn (.func 144) [] []]), .el (dI n)]]) (Tab.of ([])) (dI (indexBy (wantN nFind n) 0 l)) (Tab.of ([])) := by
  refine pco_of_run [] (E := ⟨[c148], [], []⟩) (m := false) (base := 0) (Env.ok_cons c148_ok Env.ok_nil) G_ok mix 300 6 Try.func145 (by kernel_rfl) rfl (by kernel_rfl) (by kernel_rfl) rfl ?_
  simp [Try.f145]
  refine loop_inv (fun p : Nat => p ≤ l.length ∧ indexBy (wantN nFind n) 0 l = indexBy (wantN nFind n) p (l.drop p)) (fun p => [(0, .sl false 8 yTFind (ML encTFind l)), (1, .fn (.func 148) [] [.el (.agg [.sl false 8 yTFind (ML encTFind l2), .fn (.func 144) [] []]), .el (dI n)]), (7, dI l.length), (8, dI p)]) (fun _ => []) 1 (fun p => l.length - p) 0 400 (by simp) (by simp) (by simp) ?_
  intro p ⟨hp, hi⟩
  simp
  refine ⟨fun hlt => ?_, fun hge => ?_⟩
  · rw [indexBy_at (d := default) hlt] at hi
    repeat' (first | omega | refine And.intro ?_ ?_ | intro _)
    all_goals first | exact Again.mk (p + 1) ⟨by omega, by rw [hi]; grind⟩ (by simp) (by first | omega | (simp; omega)) | (rw [hi]; grind)
  · rw [hi, indexBy_end hge]
theorem c145_i_ok : c145_i.ok Try.prog := mkCon_ok fun ⟨l, l2, n⟩ hpre => c145_i_pc l l2 n hpre
/-- (loop.example/g03007/impl.sortedList[loop.example/g03007/impl.Find]).put$1 -/
noncomputable def c146 : Con := mkCon 146 false (α := TFind × (List TFind) × Int) (fun x => (fun (x : TFind) (l : List TFind) (n : Int) => ([encTFind x, .el (.agg [.sl false 8 yTFind (ML encTFind l), .fn (.func 144) [] []]), .el (dI n)] : List D)) x.1 x.2.1 x.2.2) (fun x => (fun (x : TFind) (l : List TFind) (n : Int) => ([] : List (Nm × OO))) x.1 x.2.1 x.2.2) (fun x => (fun (x : TFind) (l : List TFind) (n : Int) => True) x.1 x.2.1 x.2.2) (fun x => (fun (x : TFind) (l : List TFind) (n : Int) => (dB (geN nFind n x) : D)) x.1 x.2.1 x.2.2) (fun x => (fun (x : TFind) (l : List TFind) (n : Int) => ([] : List (Nm × OO))) x.1 x.2.1 x.2.2)
@[simp] theorem c146_f : c146.f = 146 := rfl
@[simp] theorem c146_own : c146.own = false := rfl
theorem c146_inj : ∀ u_ v_ : TFind × (List TFind) × Int, ((fun x => (fun (x : TFind) (l : List TFind) (n : Int) => ([encTFind x, .el (.agg [.sl false 8 yTFind (ML encTFind l), .fn (.func 144) [] []]), .el (dI n)] : List D)) x.1 x.2.1 x.2.2) u_).map nz = ((fun x => (fun (x : TFind) (l : List TFind) (n : Int) => ([encTFind x, .el (.agg [.sl false 8 yTFind (ML encTFind l), .fn (.func 144) [] []]), .el (dI n)] : List D)) x.1 x.2.1 x.2.2) v_).map nz → (fun x => (fun (x : TFind) (l : List TFind) (n : Int) => ([] : List (Nm × OO))) x.1 x.2.1 x.2.2) u_ = (fun x => (fun (x : TFind) (l : List TFind) (n : Int) => ([] : List (Nm × OO))) x.1 x.2.1 x.2.2) v_ → u_ = v_ := by
  intro u_ v_ h h2_
  obtain ⟨⟨⟨x_Thing_Id, x_Thing_Kind, x_Thing_Colour, x_Thing_Size, x_Thing_Worth⟩, x_Place, x_At, x_Finder⟩, l, n⟩ := u_
  obtain ⟨⟨⟨x_Thing_Id', x_Thing_Kind', x_Thing_Colour', x_Thing_Size', x_Thing_Worth'⟩, x_Place', x_At', x_Finder'⟩, l', n'⟩ := v_
  simp [nz_lit, nz1_lit, nz_agg, nz_sl, nz1_sl, nz_sx, nz_el, nz1_el, nz_own, nz1_own, nz_ptr, nz_fn, nz_iface] at h h2_
  first | (simp [h, h2_]; done) | (obtain ⟨h3_, h4_⟩ := List.append_inj h2_ h.1; simp_all; done) | simp_all | grind
@[simp] theorem c146_fn (x_Thing_Id : Int) (x_Thing_Kind : Int) (x_Thing_Colour : Int) (x_Thing_Size : Int) (x_Thing_Worth : Int) (x_Place : Int) (x_At : Int) (x_Finder : Int) (l : List TFind) (n : Int) : c146.fn ([.agg [.lit (.int .i64 x_Thing_Id), .lit (.int .i64 x_Thing_Kind), .lit (.int .i64 x_Thing_Colour), .lit (.int .i64 x_Thing_Size), .lit (.int .i64 x_Thing_Worth), .lit (.int .i64 x_Place), .lit (.int .i64 x_At), .lit (.int .i64 x_Finder)], .el (.agg [.sl false 8 yTFind (ML encTFind l), .fn (.func 144) [] []]), .el (dI n)]) ([]) = some (True, dB (geN nFind n (⟨⟨x_Thing_Id, x_Thing_Kind, x_Thing_Colour, x_Thing_Size, x_Thing_Worth⟩, x_Place, x_At, x_Finder⟩ : TFind)), []) :=
  mkCon_fn c146_inj ((⟨⟨x_Thing_Id, x_Thing_Kind, x_Thing_Colour, x_Thing_Size, x_Thing_Worth⟩, x_Place, x_At, x_Finder⟩, l, n) : TFind × (List TFind) × Int) rfl rfl
theorem c146_pc (x : TFind) (l : List TFind) (n : Int) : PCo Try.prog 146 ([encTFind x, .el (.agg [.sl false 8 yTFind (ML encTFind l), .fn (.func 144) [] []]), .el (dI n)]) (Tab.of ([])) (dB (geN nFind n x)) (Tab.of ([])) := by
  refine pco_of_run [1] (E := ⟨[c144], [], []⟩) (m := false) (base := 0) (Env.ok_cons c144_ok Env.ok_nil) G_ok mix 300 6 Try.func146 (by kernel_rfl) rfl (by kernel_rfl) (by kernel_rfl) rfl ?_
  simp [Try.f146]
  simp [geN]; first | done | rfl
theorem c146_ok : c146.ok Try.prog := mkCon_ok fun ⟨x, l, n⟩ hpre => c146_pc x l n
/-- slices.IndexFunc[[]loop.example/g03007/impl.Fin -/
noncomputable def c145_p : Con := mkCon 145 false (α := (List TFind) × (List TFind) × Int) (fun x => (fun (l : List TFind) (l2 : List TFind) (n : Int) => ([.sl false 8 yTFind (ML encTFind l), .fn (.func 146) [] [.el (.agg [.sl false 8 yTFind (ML encTFind l2), .fn (.func 144) [] []]), .el (dI n)]] : List D)) x.1 x.2.1 x.2.2) (fun x => (fun (l : List TFind) (l2 : List TFind) (n : Int) => ([] : List (Nm × OO))) x.1 x.2.1 x.2.2) (fun x => (fun (l : List TFind) (l2 : List TFind) (n : Int) => l.length ≤ 1099511627776) x.1 x.2.1 x.2.2) (fun x => (fun (l : List TFind) (l2 : List TFind) (n : Int) => (dI (indexBy (geN nFind n) 0 l) : D)) x.1 x.2.1 x.2.2) (fun x => (fun (l : List TFind) (l2 : List TFind) (n : Int) => ([] : List (Nm × OO))) x.1 x.2.1 x.2.2)
@[simp] theorem c145_p_f : c145_p.f = 145 := rfl
@[simp] theorem c145_p_own : c145_p.own = false := rfl
theorem c145_p_inj : ∀ u_ v_ : (List TFind) × (List TFind) × Int, ((fun x => (fun (l : List TFind) (l2 : List TFind) (n : Int) => ([.sl false 8 yTFind (ML encTFind l), .fn (.func 146) [] [.el (.agg [.sl false 8 yTFind (ML encTFind l2), .fn (.func 144) [] []]), .el (dI n)]] : List D)) x.1 x.2.1 x.2.2) u_).map nz = ((fun x => (fun (l : List TFind) (l2 : List TFind) (n : Int) => ([.sl false 8 yTFind (ML encTFind l), .fn (.func 146) [] [.el (.agg [.sl false 8 yTFind (ML encTFind l2), .fn (.func 144) [] []]), .el (dI n)]] : List D)) x.1 x.2.1 x.2.2) v_).map nz → (fun x => (fun (l : List TFind) (l2 : List TFind) (n : Int) => ([] : List (Nm × OO))) x.1 x.2.1 x.2.2) u_ = (fun x => (fun (l : List TFind) (l2 : List TFind) (n : Int) => ([] : List (Nm × OO))) x.1 x.2.1 x.2.2) v_ → u_ = v_ := by
  intro u_ v_ h h2_
  obtain ⟨l, l2, n⟩ := u_
  obtain ⟨l', l2', n'⟩ := v_
  simp [nz_lit, nz1_lit, nz_agg, nz_sl, nz1_sl, nz_sx, nz_el, nz1_el, nz_own, nz1_own, nz_ptr, nz_fn, nz_iface] at h h2_
  first | (simp [h, h2_]; done) | (obtain ⟨h3_, h4_⟩ := List.append_inj h2_ h.1; simp_all; done) | simp_all | grind
@[simp] theorem c145_p_fn (l : List TFind) (l2 : List TFind) (n : Int) : c145_p.fn ([.sl false 8 yTFind (ML encTFind l), .fn (.func 146) [] [.el (.agg [.sl false 8 yTFind (ML encTFind l2), .fn (.func 144) [] []]), .el (dI n)]]) ([]) = some (l.length ≤ 1099511627776, dI (indexBy (geN nFind n) 0 l), []) :=
  mkCon_fn c145_p_inj ((l, l2, n) : (List TFind) × (List TFind) × Int) rfl rfl
theorem c145_p_pc (l : List TFind) (l2 : List TFind) (n : Int) (hpre : l.length ≤ 1099511627776) : PCo Try.prog 145 ([.sl false 8 yTFind (ML encTFind l), .fn (.func 146) [] [.el (.agg [.sl false 8 yTFind (ML encTFind l2), .fn (.func 144) [] []]), .el (dI n)]]) (Tab.of ([])) (dI (indexBy (geN nFind n) 0 l)) (Tab.of ([])) := by
  refine pco_of_run [] (E := ⟨[c146], [], []⟩) (m := false) (base := 0) (Env.ok_cons c146_ok Env.ok_nil) G_ok mix 300 6 Try.func145 (by kernel_rfl) rfl (by kernel_rfl) (by kernel_rfl) rfl ?_
  simp [Try.f145]
  refine loop_inv (fun p : Nat => p ≤ l.length ∧ indexBy (geN nFind n) 0 l = indexBy (geN nFind n) p (l.drop p)) (fun p => [(0, .sl false 8 yTFind (ML encTFind l)), (1, .fn (.func 146) [] [.el (.agg [.sl false 8 yTFind (ML encTFind l2), .fn (.func 144) [] []]), .el (dI n)]), (7, dI l.length), (8, dI p)]) (fun _ => []) 1 (fun p => l.length - p) 0 400 (by simp) (by simp) (by simp) ?_
  intro p ⟨hp, hi⟩
  simp
  refine ⟨fun hlt => ?_, fun hge => ?_⟩
  · rw [indexBy_at (d := default) hlt] at hi
    repeat' (first | omega | refine And.intro ?_ ?_ | intro _)
    all_goals first | exact Again.mk (p + 1) ⟨by omega, by rw [hi]; grind⟩ (by simp) (by first | omega | (simp; omega)) | (rw [hi]; grind)
  · rw [hi, indexBy_end hge]
theorem c145_p_ok : c145_p.ok Try.prog := mkCon_ok fun ⟨l, l2, n⟩ hpre => c145_p_pc l l2 n hpre
noncomputable def c145 : Con := selCon 145 false [([148], c145_i), ([146], c145_p)]
@[simp] theorem c145_f : c145.f = 145 := rfl
@[simp] theorem c145_own : c145.own = false := rfl
@[simp] theorem c145_fn0 (l : List TFind) (l2 : List TFind) (n : Int) : c145.fn ([.sl false 8 yTFind (ML encTFind l), .fn (.func 148) [] [.el (.agg [.sl false 8 yTFind (ML encTFind l2), .fn (.func 144) [] []]), .el (dI n)]]) ([]) = some (l.length ≤ 1099511627776, dI (indexBy (wantN nFind n) 0 l), []) := by
  rw [c145, selCon_fn]
  have h : selK [([148], c145_i), ([146], c145_p)] (keyDs ([.sl false 8 yTFind (ML encTFind l), .fn (.func 148) [] [.el (.agg [.sl false 8 yTFind (ML encTFind l2), .fn (.func 144) [] []]), .el (dI n)]])) = some c145_i := by simp
  rw [h]
  exact c145_i_fn l l2 n
@[simp] theorem c145_fn1 (l : List TFind) (l2 : List TFind) (n : Int) : c145.fn ([.sl false 8 yTFind (ML encTFind l), .fn (.func 146) [] [.el (.agg [.sl false 8 yTFind (ML encTFind l2), .fn (.func 144) [] []]), .el (dI n)]]) ([]) = some (l.length ≤ 1099511627776, dI (indexBy (geN nFind n) 0 l), []) := by
  rw [c145, selCon_fn]
  have h : selK [([148], c145_i), ([146], c145_p)] (keyDs ([.sl false 8 yTFind (ML encTFind l), .fn (.func 146) [] [.el (.agg [.sl false 8 yTFind (ML encTFind l2), .fn (.func 144) [] []]), .el (dI n)]])) = some c145_p := by simp
  rw [h]
  exact c145_p_fn l l2 n
theorem c145_ok : c145.ok Try.prog := selCon_ok fun p hp => by
  simp only [List.mem_cons, List.not_mem_nil, or_false] at hp
  rcases hp with rfl | rfl
  · exact ⟨rfl, c145_i_ok⟩
  · exact ⟨rfl, c145_p_ok⟩
/-- (loop.example/g03007/impl.sortedList[loop.example/g03007/impl.Find]).indexOf -/
noncomputable def c78 : Con := mkCon 78 false (α := (List TFind) × Int) (fun x => (fun (l : List TFind) (n : Int) => ([.agg [.sl false 8 yTFind (ML encTFind l), .fn (.func 144) [] []], dI n] : List D)) x.1 x.2) (fun x => (fun (l : List TFind) (n : Int) => ([] : List (Nm × OO))) x.1 x.2) (fun x => (fun (l : List TFind) (n : Int) => l.length ≤ 1099511627776) x.1 x.2) (fun x => (fun (l : List TFind) (n : Int) => (dI (indexBy (wantN nFind n) 0 l) : D)) x.1 x.2) (fun x => (fun (l : List TFind) (n : Int) => ([] : List (Nm × OO))) x.1 x.2)
@[simp] theorem c78_f : c78.f = 78 := rfl
@[simp] theorem c78_own : c78.own = false := rfl
theorem c78_inj : ∀ u_ v_ : (List TFind) × Int, ((fun x => (fun (l : List TFind) (n : Int) => ([.agg [.sl false 8 yTFind (ML encTFind l), .fn (.func 144) [] []], dI n] : List D)) x.1 x.2) u_).map nz = ((fun x => (fun (l : List TFind) (n : Int) => ([.agg [.sl false 8 yTFind (ML encTFind l), .fn (.func 144) [] []], dI n] : List D)) x.1 x.2) v_).map nz → (fun x => (fun (l : List TFind) (n : Int) => ([] : List (Nm × OO))) x.1 x.2) u_ = (fun x => (fun (l : List TFind) (n : Int) => ([] : List (Nm × OO))) x.1 x.2) v_ → u_ = v_ := by
  intro u_ v_ h h2_
  obtain ⟨l, n⟩ := u_
  obtain ⟨l', n'⟩ := v_
  simp [nz_lit, nz1_lit, nz_agg, nz_sl, nz1_sl, nz_sx, nz_el, nz1_el, nz_own, nz1_own, nz_ptr, nz_fn, nz_iface] at h h2_
  first | (simp [h, h2_]; done) | (obtain ⟨h3_, h4_⟩ := List.append_inj h2_ h.1; simp_all; done) | simp_all | grind
@[simp] theorem c78_fn (l : List TFind) (n : Int) : c78.fn ([.agg [.sl false 8 yTFind (ML encTFind l), .fn (.func 144) [] []], dI n]) ([]) = some (l.length ≤ 1099511627776, dI (indexBy (wantN nFind n) 0 l), []) :=
  mkCon_fn c78_inj ((l, n) : (List TFind) × Int) rfl rfl
theorem c78_pc (l : List TFind) (n : Int) (hpre : l.length ≤ 1099511627776) : PCo Try.prog 78 ([.agg [.sl false 8 yTFind (ML encTFind l), .fn (.func 144) [] []], dI n]) (Tab.of ([])) (dI (indexBy (wantN nFind n) 0 l)) (Tab.of ([])) := by
  refine pco_of_run [] (E := ⟨[c145, c148], [], []⟩) (m := false) (base := 0) (Env.ok_cons c145_ok (Env.ok_cons c148_ok Env.ok_nil)) G_ok mix 300 6 Try.func78 (by kernel_rfl) rfl (by kernel_rfl) (by kernel_rfl) rfl ?_
  simp [Try.f78]
  all_goals first | omega | (rw [Bool.eq_iff_iff]; simp; omega) | grind
theorem c78_ok : c78.ok Try.prog := mkCon_ok fun ⟨l, n⟩ hpre => c78_pc l n hpre
def mFindThing (l : List TFind) (n : Int) : Int := indexBy (wantN nFind n) 0 l
/-- loop.example/g03007/impl.FindThing -/
noncomputable def c13 : Con := mkCon 13 false (α := (List TFind) × Int) (fun x => (fun (l : List TFind) (n : Int) => [encLTFind l, dI n]) x.1 x.2) (fun _ => []) (fun x => (fun (l : List TFind) (n : Int) => l.length ≤ 1099511627776) x.1 x.2) (fun x => (fun (l : List TFind) (n : Int) => (dI (mFindThing l n) : D)) x.1 x.2) (fun x => (fun (l : List TFind) (n : Int) => []) x.1 x.2)
@[simp] theorem c13_f : c13.f = 13 := rfl
@[simp] theorem c13_own : c13.own = false := rfl
theorem c13_inj : ∀ u_ v_ : (List TFind) × Int, ((fun x => (fun (l : List TFind) (n : Int) => [encLTFind l, dI n]) x.1 x.2) u_).map nz = ((fun x => (fun (l : List TFind) (n : Int) => [encLTFind l, dI n]) x.1 x.2) v_).map nz → u_ = v_ := by
  intro u_ v_ h
  obtain ⟨l, n⟩ := u_
  obtain ⟨l', n'⟩ := v_
  simp [nz_lit, nz1_lit, nz_agg, nz_sl, nz1_sl, encLTFind] at h
  first | (simp [h]; done) | (obtain ⟨⟩ := h; simp_all; done) | simp_all
@[simp] theorem c13_fn (l : List TFind) (n : Int) : c13.fn [.sl false 8 yTFind (ML encTFind l), .lit (.int .i64 n)] [] = some ((fun (l : List TFind) (n : Int) => l.length ≤ 1099511627776) l n, (fun (l : List TFind) (n : Int) => (dI (mFindThing l n) : D)) l n, (fun (l : List TFind) (n : Int) => []) l n) :=
  mkCon_fn (fun x y h _ => c13_inj x y h) ((l, n) : (List TFind) × Int) (by simp [nz, nz1, ML_nil, encLTFind]) rfl
@[simp] theorem c13_fn1 (s_l : Nat) (z_l : D) (n : Int) : c13.fn [.sl false s_l z_l [], .lit (.int .i64 n)] [] = some ((fun (l : List TFind) (n : Int) => l.length ≤ 1099511627776) [] n, (fun (l : List TFind) (n : Int) => (dI (mFindThing l n) : D)) [] n, (fun (l : List TFind) (n : Int) => []) [] n) :=
  mkCon_fn (fun x y h _ => c13_inj x y h) (([], n) : (List TFind) × Int) (by simp [nz, nz1, ML_nil, encLTFind]) rfl
theorem c13_pc (l : List TFind) (n : Int) (hpre : l.length ≤ 1099511627776) : PCo Try.prog 13 [encLTFind l, dI n] (Tab.of []) (dI (mFindThing l n)) (Tab.of []) := by
  refine pco_of_run [] (E := ⟨[c74, c78], [], []⟩) (m := false) (base := 0) (Env.ok_cons c74_ok (Env.ok_cons c78_ok Env.ok_nil)) G_ok mix 300 6 Try.func13 (by kernel_rfl) rfl (by kernel_rfl) (by kernel_rfl) rfl ?_
  simp [Try.f13]
  exact ⟨hpre, rfl⟩
theorem c13_ok : c13.ok Try.prog := mkCon_ok fun ⟨l, n⟩ hpre => c13_pc l n hpre
end Go.Proofs.Ytpnfkjbnhholfaa
