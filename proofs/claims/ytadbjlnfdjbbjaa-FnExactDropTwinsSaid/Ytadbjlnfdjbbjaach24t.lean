/- Contracts of the functions that the laws run. -/
import Derived.Test.Ytadbjlnfdjbbjaach06t
import Derived.Test.YtadbjlnfdjbbjaaEngB
namespace Go.Proofs.Ytadbjlnfdjbbjaa
open Go Go.Eng
set_option linter.unusedSimpArgs false
set_option linter.unusedVariables false
set_option maxRecDepth 10000
set_option maxHeartbeats 1000000
def likeB (a b : TFind) : Bool := decide (a.Thing.Kind = b.Thing.Kind) && decide (a.Thing.Colour = b.Thing.Colour) && decide (a.Thing.Size = b.Thing.Size) && decide (a.Place = b.Place)
/-- (loop.example/g03007/impl.Find).likeness -/
noncomputable def c134 : Con := mkCon 134 false (α := TFind) (fun x => (fun (f : TFind) => [encTFind f]) x) (fun _ => []) (fun x => (fun (f : TFind) => True) x) (fun x => (fun (f : TFind) => (encTLikeness ⟨f.Thing.Kind, f.Thing.Colour, f.Thing.Size, f.Place⟩ : D)) x) (fun x => (fun (f : TFind) => []) x)
@[simp] theorem c134_f : c134.f = 134 := rfl
@[simp] theorem c134_own : c134.own = false := rfl
theorem c134_inj : ∀ u_ v_ : TFind, ((fun x => (fun (f : TFind) => [encTFind f]) x) u_).map nz = ((fun x => (fun (f : TFind) => [encTFind f]) x) v_).map nz → u_ = v_ := by
  intro u_ v_ h
  obtain ⟨⟨f_Thing_Id, f_Thing_Kind, f_Thing_Colour, f_Thing_Size, f_Thing_Worth⟩, f_Place, f_At, f_Finder⟩ := u_
  obtain ⟨⟨f_Thing_Id', f_Thing_Kind', f_Thing_Colour', f_Thing_Size', f_Thing_Worth'⟩, f_Place', f_At', f_Finder'⟩ := v_
  simp [nz_lit, nz1_lit, nz_agg, nz_sl, nz1_sl, encTFind, encTThing] at h
  first | (simp [h]; done) | (obtain ⟨⟩ := h; simp_all; done) | simp_all
@[simp] theorem c134_fn (f_Thing_Id : Int) (f_Thing_Kind : Int) (f_Thing_Colour : Int) (f_Thing_Size : Int) (f_Thing_Worth : Int) (f_Place : Int) (f_At : Int) (f_Finder : Int) : c134.fn [.agg [.lit (.int .i64 f_Thing_Id), .lit (.int .i64 f_Thing_Kind), .lit (.int .i64 f_Thing_Colour), .lit (.int .i64 f_Thing_Size), .lit (.int .i64 f_Thing_Worth), .lit (.int .i64 f_Place), .lit (.int .i64 f_At), .lit (.int .i64 f_Finder)]] [] = some ((fun (f : TFind) => True) ⟨⟨f_Thing_Id, f_Thing_Kind, f_Thing_Colour, f_Thing_Size, f_Thing_Worth⟩, f_Place, f_At, f_Finder⟩, (fun (f : TFind) => (encTLikeness ⟨f.Thing.Kind, f.Thing.Colour, f.Thing.Size, f.Place⟩ : D)) ⟨⟨f_Thing_Id, f_Thing_Kind, f_Thing_Colour, f_Thing_Size, f_Thing_Worth⟩, f_Place, f_At, f_Finder⟩, (fun (f : TFind) => []) ⟨⟨f_Thing_Id, f_Thing_Kind, f_Thing_Colour, f_Thing_Size, f_Thing_Worth⟩, f_Place, f_At, f_Finder⟩) :=
  mkCon_fn (fun x y h _ => c134_inj x y h) (⟨⟨f_Thing_Id, f_Thing_Kind, f_Thing_Colour, f_Thing_Size, f_Thing_Worth⟩, f_Place, f_At, f_Finder⟩ : TFind) (by simp [nz, nz1, ML_nil, encTFind, encTThing]) rfl
theorem c134_pc (f : TFind) : PCo Try.prog 134 [encTFind f] (Tab.of []) (encTLikeness ⟨f.Thing.Kind, f.Thing.Colour, f.Thing.Size, f.Place⟩) (Tab.of []) := by
  obtain ⟨⟨f_Thing_Id, f_Thing_Kind, f_Thing_Colour, f_Thing_Size, f_Thing_Worth⟩, f_Place, f_At, f_Finder⟩ := f
  refine pco_of_run [] (E := ⟨[], []⟩) (m := false) (base := 0) Env.ok_nil G_ok mix 300 6 Try.func134 (by kernel_rfl) rfl (by kernel_rfl) (by kernel_rfl) rfl ?_
  simp [Try.f134]
  all_goals first | omega | (rw [Bool.eq_iff_iff]; simp; omega) | grind
theorem c134_ok : c134.ok Try.prog := mkCon_ok fun f hpre => c134_pc f
/-- (loop.example/g03007/impl.Find).isOtherThan -/
noncomputable def c168 : Con := mkCon 168 false (α := TFind × TFind) (fun x => (fun (a : TFind) (b : TFind) => [encTFind a, encTFind b]) x.1 x.2) (fun _ => []) (fun x => (fun (a : TFind) (b : TFind) => True) x.1 x.2) (fun x => (fun (a : TFind) (b : TFind) => (dB (!decide (a.Thing.Id = b.Thing.Id)) : D)) x.1 x.2) (fun x => (fun (a : TFind) (b : TFind) => []) x.1 x.2)
@[simp] theorem c168_f : c168.f = 168 := rfl
@[simp] theorem c168_own : c168.own = false := rfl
theorem c168_inj : ∀ u_ v_ : TFind × TFind, ((fun x => (fun (a : TFind) (b : TFind) => [encTFind a, encTFind b]) x.1 x.2) u_).map nz = ((fun x => (fun (a : TFind) (b : TFind) => [encTFind a, encTFind b]) x.1 x.2) v_).map nz → u_ = v_ := by
  intro u_ v_ h
  obtain ⟨⟨⟨a_Thing_Id, a_Thing_Kind, a_Thing_Colour, a_Thing_Size, a_Thing_Worth⟩, a_Place, a_At, a_Finder⟩, ⟨⟨b_Thing_Id, b_Thing_Kind, b_Thing_Colour, b_Thing_Size, b_Thing_Worth⟩, b_Place, b_At, b_Finder⟩⟩ := u_
  obtain ⟨⟨⟨a_Thing_Id', a_Thing_Kind', a_Thing_Colour', a_Thing_Size', a_Thing_Worth'⟩, a_Place', a_At', a_Finder'⟩, ⟨⟨b_Thing_Id', b_Thing_Kind', b_Thing_Colour', b_Thing_Size', b_Thing_Worth'⟩, b_Place', b_At', b_Finder'⟩⟩ := v_
  simp [nz_lit, nz1_lit, nz_agg, nz_sl, nz1_sl, encTFind, encTThing] at h
  first | (simp [h]; done) | (obtain ⟨⟩ := h; simp_all; done) | simp_all
@[simp] theorem c168_fn (a_Thing_Id : Int) (a_Thing_Kind : Int) (a_Thing_Colour : Int) (a_Thing_Size : Int) (a_Thing_Worth : Int) (a_Place : Int) (a_At : Int) (a_Finder : Int) (b_Thing_Id : Int) (b_Thing_Kind : Int) (b_Thing_Colour : Int) (b_Thing_Size : Int) (b_Thing_Worth : Int) (b_Place : Int) (b_At : Int) (b_Finder : Int) : c168.fn [.agg [.lit (.int .i64 a_Thing_Id), .lit (.int .i64 a_Thing_Kind), .lit (.int .i64 a_Thing_Colour), .lit (.int .i64 a_Thing_Size), .lit (.int .i64 a_Thing_Worth), .lit (.int .i64 a_Place), .lit (.int .i64 a_At), .lit (.int .i64 a_Finder)], .agg [.lit (.int .i64 b_Thing_Id), .lit (.int .i64 b_Thing_Kind), .lit (.int .i64 b_Thing_Colour), .lit (.int .i64 b_Thing_Size), .lit (.int .i64 b_Thing_Worth), .lit (.int .i64 b_Place), .lit (.int .i64 b_At), .lit (.int .i64 b_Finder)]] [] = some ((fun (a : TFind) (b : TFind) => True) ⟨⟨a_Thing_Id, a_Thing_Kind, a_Thing_Colour, a_Thing_Size, a_Thing_Worth⟩, a_Place, a_At, a_Finder⟩ ⟨⟨b_Thing_Id, b_Thing_Kind, b_Thing_Colour, b_Thing_Size, b_Thing_Worth⟩, b_Place, b_At, b_Finder⟩, (fun (a : TFind) (b : TFind) => (dB (!decide (a.Thing.Id = b.Thing.Id)) : D)) ⟨⟨a_Thing_Id, a_Thing_Kind, a_Thing_Colour, a_Thing_Size, a_Thing_Worth⟩, a_Place, a_At, a_Finder⟩ ⟨⟨b_Thing_Id, b_Thing_Kind, b_Thing_Colour, b_Thing_Size, b_Thing_Worth⟩, b_Place, b_At, b_Finder⟩, (fun (a : TFind) (b : TFind) => []) ⟨⟨a_Thing_Id, a_Thing_Kind, a_Thing_Colour, a_Thing_Size, a_Thing_Worth⟩, a_Place, a_At, a_Finder⟩ ⟨⟨b_Thing_Id, b_Thing_Kind, b_Thing_Colour, b_Thing_Size, b_Thing_Worth⟩, b_Place, b_At, b_Finder⟩) :=
  mkCon_fn (fun x y h _ => c168_inj x y h) ((⟨⟨a_Thing_Id, a_Thing_Kind, a_Thing_Colour, a_Thing_Size, a_Thing_Worth⟩, a_Place, a_At, a_Finder⟩, ⟨⟨b_Thing_Id, b_Thing_Kind, b_Thing_Colour, b_Thing_Size, b_Thing_Worth⟩, b_Place, b_At, b_Finder⟩) : TFind × TFind) (by simp [nz, nz1, ML_nil, encTFind, encTThing]) rfl
theorem c168_pc (a : TFind) (b : TFind) : PCo Try.prog 168 [encTFind a, encTFind b] (Tab.of []) (dB (!decide (a.Thing.Id = b.Thing.Id))) (Tab.of []) := by
  obtain ⟨⟨a_Thing_Id, a_Thing_Kind, a_Thing_Colour, a_Thing_Size, a_Thing_Worth⟩, a_Place, a_At, a_Finder⟩ := a
  obtain ⟨⟨b_Thing_Id, b_Thing_Kind, b_Thing_Colour, b_Thing_Size, b_Thing_Worth⟩, b_Place, b_At, b_Finder⟩ := b
  refine pco_of_run [] (E := ⟨[], []⟩) (m := false) (base := 0) Env.ok_nil G_ok mix 300 6 Try.func168 (by kernel_rfl) rfl (by kernel_rfl) (by kernel_rfl) rfl ?_
  simp [Try.f168]
  all_goals first | omega | (rw [Bool.eq_iff_iff]; simp; omega) | grind
theorem c168_ok : c168.ok Try.prog := mkCon_ok fun ⟨a, b⟩ hpre => c168_pc a b
/-- (loop.example/g03007/impl.Find).isLike -/
noncomputable def c169 : Con := mkCon 169 false (α := TFind × TFind) (fun x => (fun (a : TFind) (b : TFind) => [encTFind a, encTFind b]) x.1 x.2) (fun _ => []) (fun x => (fun (a : TFind) (b : TFind) => True) x.1 x.2) (fun x => (fun (a : TFind) (b : TFind) => (dB (likeB a b) : D)) x.1 x.2) (fun x => (fun (a : TFind) (b : TFind) => []) x.1 x.2)
@[simp] theorem c169_f : c169.f = 169 := rfl
@[simp] theorem c169_own : c169.own = false := rfl
theorem c169_inj : ∀ u_ v_ : TFind × TFind, ((fun x => (fun (a : TFind) (b : TFind) => [encTFind a, encTFind b]) x.1 x.2) u_).map nz = ((fun x => (fun (a : TFind) (b : TFind) => [encTFind a, encTFind b]) x.1 x.2) v_).map nz → u_ = v_ := by
  intro u_ v_ h
  obtain ⟨⟨⟨a_Thing_Id, a_Thing_Kind, a_Thing_Colour, a_Thing_Size, a_Thing_Worth⟩, a_Place, a_At, a_Finder⟩, ⟨⟨b_Thing_Id, b_Thing_Kind, b_Thing_Colour, b_Thing_Size, b_Thing_Worth⟩, b_Place, b_At, b_Finder⟩⟩ := u_
  obtain ⟨⟨⟨a_Thing_Id', a_Thing_Kind', a_Thing_Colour', a_Thing_Size', a_Thing_Worth'⟩, a_Place', a_At', a_Finder'⟩, ⟨⟨b_Thing_Id', b_Thing_Kind', b_Thing_Colour', b_Thing_Size', b_Thing_Worth'⟩, b_Place', b_At', b_Finder'⟩⟩ := v_
  simp [nz_lit, nz1_lit, nz_agg, nz_sl, nz1_sl, encTFind, encTThing] at h
  first | (simp [h]; done) | (obtain ⟨⟩ := h; simp_all; done) | simp_all
@[simp] theorem c169_fn (a_Thing_Id : Int) (a_Thing_Kind : Int) (a_Thing_Colour : Int) (a_Thing_Size : Int) (a_Thing_Worth : Int) (a_Place : Int) (a_At : Int) (a_Finder : Int) (b_Thing_Id : Int) (b_Thing_Kind : Int) (b_Thing_Colour : Int) (b_Thing_Size : Int) (b_Thing_Worth : Int) (b_Place : Int) (b_At : Int) (b_Finder : Int) : c169.fn [.agg [.lit (.int .i64 a_Thing_Id), .lit (.int .i64 a_Thing_Kind), .lit (.int .i64 a_Thing_Colour), .lit (.int .i64 a_Thing_Size), .lit (.int .i64 a_Thing_Worth), .lit (.int .i64 a_Place), .lit (.int .i64 a_At), .lit (.int .i64 a_Finder)], .agg [.lit (.int .i64 b_Thing_Id), .lit (.int .i64 b_Thing_Kind), .lit (.int .i64 b_Thing_Colour), .lit (.int .i64 b_Thing_Size), .lit (.int .i64 b_Thing_Worth), .lit (.int .i64 b_Place), .lit (.int .i64 b_At), .lit (.int .i64 b_Finder)]] [] = some ((fun (a : TFind) (b : TFind) => True) ⟨⟨a_Thing_Id, a_Thing_Kind, a_Thing_Colour, a_Thing_Size, a_Thing_Worth⟩, a_Place, a_At, a_Finder⟩ ⟨⟨b_Thing_Id, b_Thing_Kind, b_Thing_Colour, b_Thing_Size, b_Thing_Worth⟩, b_Place, b_At, b_Finder⟩, (fun (a : TFind) (b : TFind) => (dB (likeB a b) : D)) ⟨⟨a_Thing_Id, a_Thing_Kind, a_Thing_Colour, a_Thing_Size, a_Thing_Worth⟩, a_Place, a_At, a_Finder⟩ ⟨⟨b_Thing_Id, b_Thing_Kind, b_Thing_Colour, b_Thing_Size, b_Thing_Worth⟩, b_Place, b_At, b_Finder⟩, (fun (a : TFind) (b : TFind) => []) ⟨⟨a_Thing_Id, a_Thing_Kind, a_Thing_Colour, a_Thing_Size, a_Thing_Worth⟩, a_Place, a_At, a_Finder⟩ ⟨⟨b_Thing_Id, b_Thing_Kind, b_Thing_Colour, b_Thing_Size, b_Thing_Worth⟩, b_Place, b_At, b_Finder⟩) :=
  mkCon_fn (fun x y h _ => c169_inj x y h) ((⟨⟨a_Thing_Id, a_Thing_Kind, a_Thing_Colour, a_Thing_Size, a_Thing_Worth⟩, a_Place, a_At, a_Finder⟩, ⟨⟨b_Thing_Id, b_Thing_Kind, b_Thing_Colour, b_Thing_Size, b_Thing_Worth⟩, b_Place, b_At, b_Finder⟩) : TFind × TFind) (by simp [nz, nz1, ML_nil, encTFind, encTThing]) rfl
theorem c169_pc (a : TFind) (b : TFind) : PCo Try.prog 169 [encTFind a, encTFind b] (Tab.of []) (dB (likeB a b)) (Tab.of []) := by
  obtain ⟨⟨a_Thing_Id, a_Thing_Kind, a_Thing_Colour, a_Thing_Size, a_Thing_Worth⟩, a_Place, a_At, a_Finder⟩ := a
  obtain ⟨⟨b_Thing_Id, b_Thing_Kind, b_Thing_Colour, b_Thing_Size, b_Thing_Worth⟩, b_Place, b_At, b_Finder⟩ := b
  refine pco_of_run [1] (E := ⟨[c134], []⟩) (m := false) (base := 0) (Env.ok_cons c134_ok Env.ok_nil) G_ok mix 300 6 Try.func169 (by kernel_rfl) rfl (by kernel_rfl) (by kernel_rfl) rfl ?_
  simp [Try.f169]
  simp [likeB]
  first | done | first | rfl | omega | (rw [Bool.eq_iff_iff]; simp; done) | (rw [Bool.eq_iff_iff]; simp; omega) | (rw [Bool.eq_iff_iff]; simp; grind) | grind
theorem c169_ok : c169.ok Try.prog := mkCon_ok fun ⟨a, b⟩ hpre => c169_pc a b
/-- (loop.example/g03007/impl.Find).isNear -/
noncomputable def c170 : Con := mkCon 170 false (α := TFind × TFind) (fun x => (fun (a : TFind) (b : TFind) => [encTFind a, encTFind b]) x.1 x.2) (fun _ => []) (fun x => (fun (a : TFind) (b : TFind) => 0 ≤ a.At ∧ a.At ≤ 100000 ∧ 0 ≤ b.At ∧ b.At ≤ 100000) x.1 x.2) (fun x => (fun (a : TFind) (b : TFind) => (dB (mIn (a.At - b.At) (-24) 24) : D)) x.1 x.2) (fun x => (fun (a : TFind) (b : TFind) => []) x.1 x.2)
@[simp] theorem c170_f : c170.f = 170 := rfl
@[simp] theorem c170_own : c170.own = false := rfl
theorem c170_inj : ∀ u_ v_ : TFind × TFind, ((fun x => (fun (a : TFind) (b : TFind) => [encTFind a, encTFind b]) x.1 x.2) u_).map nz = ((fun x => (fun (a : TFind) (b : TFind) => [encTFind a, encTFind b]) x.1 x.2) v_).map nz → u_ = v_ := by
  intro u_ v_ h
  obtain ⟨⟨⟨a_Thing_Id, a_Thing_Kind, a_Thing_Colour, a_Thing_Size, a_Thing_Worth⟩, a_Place, a_At, a_Finder⟩, ⟨⟨b_Thing_Id, b_Thing_Kind, b_Thing_Colour, b_Thing_Size, b_Thing_Worth⟩, b_Place, b_At, b_Finder⟩⟩ := u_
  obtain ⟨⟨⟨a_Thing_Id', a_Thing_Kind', a_Thing_Colour', a_Thing_Size', a_Thing_Worth'⟩, a_Place', a_At', a_Finder'⟩, ⟨⟨b_Thing_Id', b_Thing_Kind', b_Thing_Colour', b_Thing_Size', b_Thing_Worth'⟩, b_Place', b_At', b_Finder'⟩⟩ := v_
  simp [nz_lit, nz1_lit, nz_agg, nz_sl, nz1_sl, encTFind, encTThing] at h
  first | (simp [h]; done) | (obtain ⟨⟩ := h; simp_all; done) | simp_all
@[simp] theorem c170_fn (a_Thing_Id : Int) (a_Thing_Kind : Int) (a_Thing_Colour : Int) (a_Thing_Size : Int) (a_Thing_Worth : Int) (a_Place : Int) (a_At : Int) (a_Finder : Int) (b_Thing_Id : Int) (b_Thing_Kind : Int) (b_Thing_Colour : Int) (b_Thing_Size : Int) (b_Thing_Worth : Int) (b_Place : Int) (b_At : Int) (b_Finder : Int) : c170.fn [.agg [.lit (.int .i64 a_Thing_Id), .lit (.int .i64 a_Thing_Kind), .lit (.int .i64 a_Thing_Colour), .lit (.int .i64 a_Thing_Size), .lit (.int .i64 a_Thing_Worth), .lit (.int .i64 a_Place), .lit (.int .i64 a_At), .lit (.int .i64 a_Finder)], .agg [.lit (.int .i64 b_Thing_Id), .lit (.int .i64 b_Thing_Kind), .lit (.int .i64 b_Thing_Colour), .lit (.int .i64 b_Thing_Size), .lit (.int .i64 b_Thing_Worth), .lit (.int .i64 b_Place), .lit (.int .i64 b_At), .lit (.int .i64 b_Finder)]] [] = some ((fun (a : TFind) (b : TFind) => 0 ≤ a.At ∧ a.At ≤ 100000 ∧ 0 ≤ b.At ∧ b.At ≤ 100000) ⟨⟨a_Thing_Id, a_Thing_Kind, a_Thing_Colour, a_Thing_Size, a_Thing_Worth⟩, a_Place, a_At, a_Finder⟩ ⟨⟨b_Thing_Id, b_Thing_Kind, b_Thing_Colour, b_Thing_Size, b_Thing_Worth⟩, b_Place, b_At, b_Finder⟩, (fun (a : TFind) (b : TFind) => (dB (mIn (a.At - b.At) (-24) 24) : D)) ⟨⟨a_Thing_Id, a_Thing_Kind, a_Thing_Colour, a_Thing_Size, a_Thing_Worth⟩, a_Place, a_At, a_Finder⟩ ⟨⟨b_Thing_Id, b_Thing_Kind, b_Thing_Colour, b_Thing_Size, b_Thing_Worth⟩, b_Place, b_At, b_Finder⟩, (fun (a : TFind) (b : TFind) => []) ⟨⟨a_Thing_Id, a_Thing_Kind, a_Thing_Colour, a_Thing_Size, a_Thing_Worth⟩, a_Place, a_At, a_Finder⟩ ⟨⟨b_Thing_Id, b_Thing_Kind, b_Thing_Colour, b_Thing_Size, b_Thing_Worth⟩, b_Place, b_At, b_Finder⟩) :=
  mkCon_fn (fun x y h _ => c170_inj x y h) ((⟨⟨a_Thing_Id, a_Thing_Kind, a_Thing_Colour, a_Thing_Size, a_Thing_Worth⟩, a_Place, a_At, a_Finder⟩, ⟨⟨b_Thing_Id, b_Thing_Kind, b_Thing_Colour, b_Thing_Size, b_Thing_Worth⟩, b_Place, b_At, b_Finder⟩) : TFind × TFind) (by simp [nz, nz1, ML_nil, encTFind, encTThing]) rfl
theorem c170_pc (a : TFind) (b : TFind) (hpre : 0 ≤ a.At ∧ a.At ≤ 100000 ∧ 0 ≤ b.At ∧ b.At ≤ 100000) : PCo Try.prog 170 [encTFind a, encTFind b] (Tab.of []) (dB (mIn (a.At - b.At) (-24) 24)) (Tab.of []) := by
  obtain ⟨⟨a_Thing_Id, a_Thing_Kind, a_Thing_Colour, a_Thing_Size, a_Thing_Worth⟩, a_Place, a_At, a_Finder⟩ := a
  obtain ⟨⟨b_Thing_Id, b_Thing_Kind, b_Thing_Colour, b_Thing_Size, b_Thing_Worth⟩, b_Place, b_At, b_Finder⟩ := b
  refine pco_of_run [] (E := ⟨[c147], []⟩) (m := false) (base := 0) (Env.ok_cons c147_ok Env.ok_nil) G_ok mix 300 6 Try.func170 (by kernel_rfl) rfl (by kernel_rfl) (by kernel_rfl) rfl ?_
  simp [Try.f170]
  simp at hpre
  omega
theorem c170_ok : c170.ok Try.prog := mkCon_ok fun ⟨a, b⟩ hpre => c170_pc a b hpre
def mTwins (a b : TFind) : Bool := mIsFind a && mIsFind b && !decide (a.Thing.Id = b.Thing.Id) && likeB a b && mIn (a.At - b.At) (-24) 24
theorem isFind_at {f : TFind} (h : mIsFind f = true) : 0 ≤ f.At ∧ f.At ≤ 100000 := by
  simp [mIsFind, mIn] at h; omega
/-- loop.example/g03007/impl.AreTwins -/
noncomputable def c137 : Con := mkCon 137 false (α := TFind × TFind) (fun x => (fun (a : TFind) (b : TFind) => [encTFind a, encTFind b]) x.1 x.2) (fun _ => []) (fun x => (fun (a : TFind) (b : TFind) => True) x.1 x.2) (fun x => (fun (a : TFind) (b : TFind) => (dB (mTwins a b) : D)) x.1 x.2) (fun x => (fun (a : TFind) (b : TFind) => []) x.1 x.2)
@[simp] theorem c137_f : c137.f = 137 := rfl
@[simp] theorem c137_own : c137.own = false := rfl
theorem c137_inj : ∀ u_ v_ : TFind × TFind, ((fun x => (fun (a : TFind) (b : TFind) => [encTFind a, encTFind b]) x.1 x.2) u_).map nz = ((fun x => (fun (a : TFind) (b : TFind) => [encTFind a, encTFind b]) x.1 x.2) v_).map nz → u_ = v_ := by
  intro u_ v_ h
  obtain ⟨⟨⟨a_Thing_Id, a_Thing_Kind, a_Thing_Colour, a_Thing_Size, a_Thing_Worth⟩, a_Place, a_At, a_Finder⟩, ⟨⟨b_Thing_Id, b_Thing_Kind, b_Thing_Colour, b_Thing_Size, b_Thing_Worth⟩, b_Place, b_At, b_Finder⟩⟩ := u_
  obtain ⟨⟨⟨a_Thing_Id', a_Thing_Kind', a_Thing_Colour', a_Thing_Size', a_Thing_Worth'⟩, a_Place', a_At', a_Finder'⟩, ⟨⟨b_Thing_Id', b_Thing_Kind', b_Thing_Colour', b_Thing_Size', b_Thing_Worth'⟩, b_Place', b_At', b_Finder'⟩⟩ := v_
  simp [nz_lit, nz1_lit, nz_agg, nz_sl, nz1_sl, encTFind, encTThing] at h
  first | (simp [h]; done) | (obtain ⟨⟩ := h; simp_all; done) | simp_all
@[simp] theorem c137_fn (a_Thing_Id : Int) (a_Thing_Kind : Int) (a_Thing_Colour : Int) (a_Thing_Size : Int) (a_Thing_Worth : Int) (a_Place : Int) (a_At : Int) (a_Finder : Int) (b_Thing_Id : Int) (b_Thing_Kind : Int) (b_Thing_Colour : Int) (b_Thing_Size : Int) (b_Thing_Worth : Int) (b_Place : Int) (b_At : Int) (b_Finder : Int) : c137.fn [.agg [.lit (.int .i64 a_Thing_Id), .lit (.int .i64 a_Thing_Kind), .lit (.int .i64 a_Thing_Colour), .lit (.int .i64 a_Thing_Size), .lit (.int .i64 a_Thing_Worth), .lit (.int .i64 a_Place), .lit (.int .i64 a_At), .lit (.int .i64 a_Finder)], .agg [.lit (.int .i64 b_Thing_Id), .lit (.int .i64 b_Thing_Kind), .lit (.int .i64 b_Thing_Colour), .lit (.int .i64 b_Thing_Size), .lit (.int .i64 b_Thing_Worth), .lit (.int .i64 b_Place), .lit (.int .i64 b_At), .lit (.int .i64 b_Finder)]] [] = some ((fun (a : TFind) (b : TFind) => True) ⟨⟨a_Thing_Id, a_Thing_Kind, a_Thing_Colour, a_Thing_Size, a_Thing_Worth⟩, a_Place, a_At, a_Finder⟩ ⟨⟨b_Thing_Id, b_Thing_Kind, b_Thing_Colour, b_Thing_Size, b_Thing_Worth⟩, b_Place, b_At, b_Finder⟩, (fun (a : TFind) (b : TFind) => (dB (mTwins a b) : D)) ⟨⟨a_Thing_Id, a_Thing_Kind, a_Thing_Colour, a_Thing_Size, a_Thing_Worth⟩, a_Place, a_At, a_Finder⟩ ⟨⟨b_Thing_Id, b_Thing_Kind, b_Thing_Colour, b_Thing_Size, b_Thing_Worth⟩, b_Place, b_At, b_Finder⟩, (fun (a : TFind) (b : TFind) => []) ⟨⟨a_Thing_Id, a_Thing_Kind, a_Thing_Colour, a_Thing_Size, a_Thing_Worth⟩, a_Place, a_At, a_Finder⟩ ⟨⟨b_Thing_Id, b_Thing_Kind, b_Thing_Colour, b_Thing_Size, b_Thing_Worth⟩, b_Place, b_At, b_Finder⟩) :=
  mkCon_fn (fun x y h _ => c137_inj x y h) ((⟨⟨a_Thing_Id, a_Thing_Kind, a_Thing_Colour, a_Thing_Size, a_Thing_Worth⟩, a_Place, a_At, a_Finder⟩, ⟨⟨b_Thing_Id, b_Thing_Kind, b_Thing_Colour, b_Thing_Size, b_Thing_Worth⟩, b_Place, b_At, b_Finder⟩) : TFind × TFind) (by simp [nz, nz1, ML_nil, encTFind, encTThing]) rfl
theorem c137_pc (a : TFind) (b : TFind) : PCo Try.prog 137 [encTFind a, encTFind b] (Tab.of []) (dB (mTwins a b)) (Tab.of []) := by
  refine pco_of_run [] (E := ⟨[c166, c168, c169, c170, c168, c169, c170], []⟩) (m := false) (base := 0) (Env.ok_cons c166_ok (Env.ok_cons c168_ok (Env.ok_cons c169_ok (Env.ok_cons c170_ok (Env.ok_cons c168_ok (Env.ok_cons c169_ok (Env.ok_cons c170_ok Env.ok_nil))))))) G_ok mix 300 6 Try.func137 (by kernel_rfl) rfl (by kernel_rfl) (by kernel_rfl) rfl ?_
  simp [Try.f137]
  refine ⟨fun h => by simp only [mTwins]; grind, fun h1 h2 => ?_⟩
  have h3 := isFind_at h1
  have h4 := isFind_at h2
  refine loop_unroll 400 ?_
  simp
  simp only [mTwins]
  repeat' (first | omega | refine And.intro ?_ ?_ | intro _)
  all_goals grind
theorem c137_ok : c137.ok Try.prog := mkCon_ok fun ⟨a, b⟩ hpre => c137_pc a b
/-- loop.example/g03007/spec.AreTwins -/
noncomputable def c131 : Con := mkCon 131 false (α := TFind × TFind) (fun x => (fun (a : TFind) (b : TFind) => [encTFind a, encTFind b]) x.1 x.2) (fun _ => []) (fun x => (fun (a : TFind) (b : TFind) => True) x.1 x.2) (fun x => (fun (a : TFind) (b : TFind) => (dB (mTwins a b) : D)) x.1 x.2) (fun x => (fun (a : TFind) (b : TFind) => []) x.1 x.2)
@[simp] theorem c131_f : c131.f = 131 := rfl
@[simp] theorem c131_own : c131.own = false := rfl
theorem c131_inj : ∀ u_ v_ : TFind × TFind, ((fun x => (fun (a : TFind) (b : TFind) => [encTFind a, encTFind b]) x.1 x.2) u_).map nz = ((fun x => (fun (a : TFind) (b : TFind) => [encTFind a, encTFind b]) x.1 x.2) v_).map nz → u_ = v_ := by
  intro u_ v_ h
  obtain ⟨⟨⟨a_Thing_Id, a_Thing_Kind, a_Thing_Colour, a_Thing_Size, a_Thing_Worth⟩, a_Place, a_At, a_Finder⟩, ⟨⟨b_Thing_Id, b_Thing_Kind, b_Thing_Colour, b_Thing_Size, b_Thing_Worth⟩, b_Place, b_At, b_Finder⟩⟩ := u_
  obtain ⟨⟨⟨a_Thing_Id', a_Thing_Kind', a_Thing_Colour', a_Thing_Size', a_Thing_Worth'⟩, a_Place', a_At', a_Finder'⟩, ⟨⟨b_Thing_Id', b_Thing_Kind', b_Thing_Colour', b_Thing_Size', b_Thing_Worth'⟩, b_Place', b_At', b_Finder'⟩⟩ := v_
  simp [nz_lit, nz1_lit, nz_agg, nz_sl, nz1_sl, encTFind, encTThing] at h
  first | (simp [h]; done) | (obtain ⟨⟩ := h; simp_all; done) | simp_all
@[simp] theorem c131_fn (a_Thing_Id : Int) (a_Thing_Kind : Int) (a_Thing_Colour : Int) (a_Thing_Size : Int) (a_Thing_Worth : Int) (a_Place : Int) (a_At : Int) (a_Finder : Int) (b_Thing_Id : Int) (b_Thing_Kind : Int) (b_Thing_Colour : Int) (b_Thing_Size : Int) (b_Thing_Worth : Int) (b_Place : Int) (b_At : Int) (b_Finder : Int) : c131.fn [.agg [.lit (.int .i64 a_Thing_Id), .lit (.int .i64 a_Thing_Kind), .lit (.int .i64 a_Thing_Colour), .lit (.int .i64 a_Thing_Size), .lit (.int .i64 a_Thing_Worth), .lit (.int .i64 a_Place), .lit (.int .i64 a_At), .lit (.int .i64 a_Finder)], .agg [.lit (.int .i64 b_Thing_Id), .lit (.int .i64 b_Thing_Kind), .lit (.int .i64 b_Thing_Colour), .lit (.int .i64 b_Thing_Size), .lit (.int .i64 b_Thing_Worth), .lit (.int .i64 b_Place), .lit (.int .i64 b_At), .lit (.int .i64 b_Finder)]] [] = some ((fun (a : TFind) (b : TFind) => True) ⟨⟨a_Thing_Id, a_Thing_Kind, a_Thing_Colour, a_Thing_Size, a_Thing_Worth⟩, a_Place, a_At, a_Finder⟩ ⟨⟨b_Thing_Id, b_Thing_Kind, b_Thing_Colour, b_Thing_Size, b_Thing_Worth⟩, b_Place, b_At, b_Finder⟩, (fun (a : TFind) (b : TFind) => (dB (mTwins a b) : D)) ⟨⟨a_Thing_Id, a_Thing_Kind, a_Thing_Colour, a_Thing_Size, a_Thing_Worth⟩, a_Place, a_At, a_Finder⟩ ⟨⟨b_Thing_Id, b_Thing_Kind, b_Thing_Colour, b_Thing_Size, b_Thing_Worth⟩, b_Place, b_At, b_Finder⟩, (fun (a : TFind) (b : TFind) => []) ⟨⟨a_Thing_Id, a_Thing_Kind, a_Thing_Colour, a_Thing_Size, a_Thing_Worth⟩, a_Place, a_At, a_Finder⟩ ⟨⟨b_Thing_Id, b_Thing_Kind, b_Thing_Colour, b_Thing_Size, b_Thing_Worth⟩, b_Place, b_At, b_Finder⟩) :=
  mkCon_fn (fun x y h _ => c131_inj x y h) ((⟨⟨a_Thing_Id, a_Thing_Kind, a_Thing_Colour, a_Thing_Size, a_Thing_Worth⟩, a_Place, a_At, a_Finder⟩, ⟨⟨b_Thing_Id, b_Thing_Kind, b_Thing_Colour, b_Thing_Size, b_Thing_Worth⟩, b_Place, b_At, b_Finder⟩) : TFind × TFind) (by simp [nz, nz1, ML_nil, encTFind, encTThing]) rfl
theorem c131_pc (a : TFind) (b : TFind) : PCo Try.prog 131 [encTFind a, encTFind b] (Tab.of []) (dB (mTwins a b)) (Tab.of []) := by
  refine pco_of_run [] (E := ⟨[c95, c162], []⟩) (m := false) (base := 0) (Env.ok_cons c95_ok (Env.ok_cons c162_ok Env.ok_nil)) G_ok mix 300 6 Try.func131 (by kernel_rfl) rfl (by kernel_rfl) (by kernel_rfl) rfl ?_
  simp [Try.f131]
  simp [mTwins, likeB]
  refine ⟨fun h => by grind, fun h1 h2 h5 => ?_⟩
  have h3 := isFind_at h1
  have h4 := isFind_at h2
  repeat' (first | omega | refine And.intro ?_ ?_ | intro _)
  all_goals grind
theorem c131_ok : c131.ok Try.prog := mkCon_ok fun ⟨a, b⟩ hpre => c131_pc a b

end Go.Proofs.Ytadbjlnfdjbbjaa
