/- Contracts of the functions that the laws run. -/
import Derived.Test.Ytnkggfhgmdbfpaach03
import Derived.Test.YtnkggfhgmdbfpaaEngB
namespace Go.Proofs.Ytnkggfhgmdbfpaa
open Go Go.Eng
set_option linter.unusedSimpArgs false
set_option linter.unusedVariables false
set_option maxRecDepth 10000
set_option maxHeartbeats 1000000
def mSealBid (a b c : Int) : Int := mHash [a, b, c]
def mIsBid (x : TBid) : Bool := mIn x.Who 1 999 && mIn x.Cents 1 10000000
/-- (loop.example/g03007/impl.Bid).hasWho -/
noncomputable def c256 : Con := mkCon 256 false (α := TBid) (fun x => (fun (x : TBid) => [encTBid x]) x) (fun _ => []) (fun x => (fun (x : TBid) => True) x) (fun x => (fun (x : TBid) => (dB (mIn x.Who 1 999) : D)) x) (fun x => (fun (x : TBid) => []) x)
@[simp] theorem c256_f : c256.f = 256 := rfl
@[simp] theorem c256_own : c256.own = false := rfl
theorem c256_inj : ∀ u_ v_ : TBid, ((fun x => (fun (x : TBid) => [encTBid x]) x) u_).map nz = ((fun x => (fun (x : TBid) => [encTBid x]) x) v_).map nz → u_ = v_ := by
  intro u_ v_ h
  obtain ⟨x_Who, x_Cents, x_Seal⟩ := u_
  obtain ⟨x_Who', x_Cents', x_Seal'⟩ := v_
  simp [nz_lit, nz1_lit, nz_agg, nz_sl, nz1_sl, encTBid] at h
  first | (simp [h]; done) | (obtain ⟨⟩ := h; simp_all; done) | simp_all
@[simp] theorem c256_fn (x_Who : Int) (x_Cents : Int) (x_Seal : Int) : c256.fn [.agg [.lit (.int .i64 x_Who), .lit (.int .i64 x_Cents), .lit (.int .i64 x_Seal)]] [] = some ((fun (x : TBid) => True) ⟨x_Who, x_Cents, x_Seal⟩, (fun (x : TBid) => (dB (mIn x.Who 1 999) : D)) ⟨x_Who, x_Cents, x_Seal⟩, (fun (x : TBid) => []) ⟨x_Who, x_Cents, x_Seal⟩) :=
  mkCon_fn (fun x y h _ => c256_inj x y h) (⟨x_Who, x_Cents, x_Seal⟩ : TBid) (by simp [nz, nz1, ML_nil, encTBid]) rfl
theorem c256_pc (x : TBid) : PCo Try.prog 256 [encTBid x] (Tab.of []) (dB (mIn x.Who 1 999)) (Tab.of []) := by
  obtain ⟨x_Who, x_Cents, x_Seal⟩ := x
  refine pco_of_run [] (E := ⟨[c108], []⟩) (m := false) (base := 0) (Env.ok_cons c108_ok Env.ok_nil) G_ok mix 300 6 Try.func256 (by kernel_rfl) rfl (by kernel_rfl) (by kernel_rfl) rfl ?_
  simp [Try.f256]
  all_goals first | omega | (rw [Bool.eq_iff_iff]; simp; omega) | grind
theorem c256_ok : c256.ok Try.prog := mkCon_ok fun x hpre => c256_pc x
/-- (loop.example/g03007/impl.Bid).hasCents -/
noncomputable def c257 : Con := mkCon 257 false (α := TBid) (fun x => (fun (x : TBid) => [encTBid x]) x) (fun _ => []) (fun x => (fun (x : TBid) => True) x) (fun x => (fun (x : TBid) => (dB (mIn x.Cents 1 10000000) : D)) x) (fun x => (fun (x : TBid) => []) x)
@[simp] theorem c257_f : c257.f = 257 := rfl
@[simp] theorem c257_own : c257.own = false := rfl
theorem c257_inj : ∀ u_ v_ : TBid, ((fun x => (fun (x : TBid) => [encTBid x]) x) u_).map nz = ((fun x => (fun (x : TBid) => [encTBid x]) x) v_).map nz → u_ = v_ := by
  intro u_ v_ h
  obtain ⟨x_Who, x_Cents, x_Seal⟩ := u_
  obtain ⟨x_Who', x_Cents', x_Seal'⟩ := v_
  simp [nz_lit, nz1_lit, nz_agg, nz_sl, nz1_sl, encTBid] at h
  first | (simp [h]; done) | (obtain ⟨⟩ := h; simp_all; done) | simp_all
@[simp] theorem c257_fn (x_Who : Int) (x_Cents : Int) (x_Seal : Int) : c257.fn [.agg [.lit (.int .i64 x_Who), .lit (.int .i64 x_Cents), .lit (.int .i64 x_Seal)]] [] = some ((fun (x : TBid) => True) ⟨x_Who, x_Cents, x_Seal⟩, (fun (x : TBid) => (dB (mIn x.Cents 1 10000000) : D)) ⟨x_Who, x_Cents, x_Seal⟩, (fun (x : TBid) => []) ⟨x_Who, x_Cents, x_Seal⟩) :=
  mkCon_fn (fun x y h _ => c257_inj x y h) (⟨x_Who, x_Cents, x_Seal⟩ : TBid) (by simp [nz, nz1, ML_nil, encTBid]) rfl
theorem c257_pc (x : TBid) : PCo Try.prog 257 [encTBid x] (Tab.of []) (dB (mIn x.Cents 1 10000000)) (Tab.of []) := by
  obtain ⟨x_Who, x_Cents, x_Seal⟩ := x
  refine pco_of_run [] (E := ⟨[c108], []⟩) (m := false) (base := 0) (Env.ok_cons c108_ok Env.ok_nil) G_ok mix 300 6 Try.func257 (by kernel_rfl) rfl (by kernel_rfl) (by kernel_rfl) rfl ?_
  simp [Try.f257]
  all_goals first | omega | (rw [Bool.eq_iff_iff]; simp; omega) | grind
theorem c257_ok : c257.ok Try.prog := mkCon_ok fun x hpre => c257_pc x
/-- loop.example/g03007/impl.isBid -/
noncomputable def c219 : Con := mkCon 219 false (α := TBid) (fun x => (fun (x : TBid) => [encTBid x]) x) (fun _ => []) (fun x => (fun (x : TBid) => True) x) (fun x => (fun (x : TBid) => (dB (mIsBid x) : D)) x) (fun x => (fun (x : TBid) => []) x)
@[simp] theorem c219_f : c219.f = 219 := rfl
@[simp] theorem c219_own : c219.own = false := rfl
theorem c219_inj : ∀ u_ v_ : TBid, ((fun x => (fun (x : TBid) => [encTBid x]) x) u_).map nz = ((fun x => (fun (x : TBid) => [encTBid x]) x) v_).map nz → u_ = v_ := by
  intro u_ v_ h
  obtain ⟨x_Who, x_Cents, x_Seal⟩ := u_
  obtain ⟨x_Who', x_Cents', x_Seal'⟩ := v_
  simp [nz_lit, nz1_lit, nz_agg, nz_sl, nz1_sl, encTBid] at h
  first | (simp [h]; done) | (obtain ⟨⟩ := h; simp_all; done) | simp_all
@[simp] theorem c219_fn (x_Who : Int) (x_Cents : Int) (x_Seal : Int) : c219.fn [.agg [.lit (.int .i64 x_Who), .lit (.int .i64 x_Cents), .lit (.int .i64 x_Seal)]] [] = some ((fun (x : TBid) => True) ⟨x_Who, x_Cents, x_Seal⟩, (fun (x : TBid) => (dB (mIsBid x) : D)) ⟨x_Who, x_Cents, x_Seal⟩, (fun (x : TBid) => []) ⟨x_Who, x_Cents, x_Seal⟩) :=
  mkCon_fn (fun x y h _ => c219_inj x y h) (⟨x_Who, x_Cents, x_Seal⟩ : TBid) (by simp [nz, nz1, ML_nil, encTBid]) rfl
theorem c219_pc (x : TBid) : PCo Try.prog 219 [encTBid x] (Tab.of []) (dB (mIsBid x)) (Tab.of []) := by
  obtain ⟨x_Who, x_Cents, x_Seal⟩ := x
  refine pco_of_run [] (E := ⟨[c256, c257, c256, c257], []⟩) (m := false) (base := 0) (Env.ok_cons c256_ok (Env.ok_cons c257_ok (Env.ok_cons c256_ok (Env.ok_cons c257_ok Env.ok_nil)))) G_ok mix 300 6 Try.func219 (by kernel_rfl) rfl (by kernel_rfl) (by kernel_rfl) rfl ?_
  simp [Try.f219]
  refine loop_unroll 400 ?_
  simp [mIsBid]
  first | done | grind
theorem c219_ok : c219.ok Try.prog := mkCon_ok fun x hpre => c219_pc x
/-- loop.example/g03007/laws.toBid -/
noncomputable def c147 : Con := mkCon 147 false (α := TBid) (fun x => (fun (a : TBid) => [encTBid a]) x) (fun _ => []) (fun x => (fun (a : TBid) => True) x) (fun x => (fun (a : TBid) => (encTBid a : D)) x) (fun x => (fun (a : TBid) => []) x)
@[simp] theorem c147_f : c147.f = 147 := rfl
@[simp] theorem c147_own : c147.own = false := rfl
theorem c147_inj : ∀ u_ v_ : TBid, ((fun x => (fun (a : TBid) => [encTBid a]) x) u_).map nz = ((fun x => (fun (a : TBid) => [encTBid a]) x) v_).map nz → u_ = v_ := by
  intro u_ v_ h
  obtain ⟨a_Who, a_Cents, a_Seal⟩ := u_
  obtain ⟨a_Who', a_Cents', a_Seal'⟩ := v_
  simp [nz_lit, nz1_lit, nz_agg, nz_sl, nz1_sl, encTBid] at h
  first | (simp [h]; done) | (obtain ⟨⟩ := h; simp_all; done) | simp_all
@[simp] theorem c147_fn (a_Who : Int) (a_Cents : Int) (a_Seal : Int) : c147.fn [.agg [.lit (.int .i64 a_Who), .lit (.int .i64 a_Cents), .lit (.int .i64 a_Seal)]] [] = some ((fun (a : TBid) => True) ⟨a_Who, a_Cents, a_Seal⟩, (fun (a : TBid) => (encTBid a : D)) ⟨a_Who, a_Cents, a_Seal⟩, (fun (a : TBid) => []) ⟨a_Who, a_Cents, a_Seal⟩) :=
  mkCon_fn (fun x y h _ => c147_inj x y h) (⟨a_Who, a_Cents, a_Seal⟩ : TBid) (by simp [nz, nz1, ML_nil, encTBid]) rfl
theorem c147_pc (a : TBid) : PCo Try.prog 147 [encTBid a] (Tab.of []) (encTBid a) (Tab.of []) := by
  obtain ⟨a_Who, a_Cents, a_Seal⟩ := a
  refine pco_of_run [] (E := ⟨[], []⟩) (m := false) (base := 0) Env.ok_nil G_ok mix 300 6 Try.func147 (by kernel_rfl) rfl (by kernel_rfl) (by kernel_rfl) rfl ?_
  simp [Try.f147]
  all_goals first | omega | (rw [Bool.eq_iff_iff]; simp; omega) | grind
theorem c147_ok : c147.ok Try.prog := mkCon_ok fun a hpre => c147_pc a
/-- loop.example/g03007/laws.eqBid -/
noncomputable def c150 : Con := mkCon 150 false (α := TBid × TBid) (fun x => (fun (a : TBid) (b : TBid) => [encTBid a, encTBid b]) x.1 x.2) (fun _ => []) (fun x => (fun (a : TBid) (b : TBid) => True) x.1 x.2) (fun x => (fun (a : TBid) (b : TBid) => (dB (decide (a = b)) : D)) x.1 x.2) (fun x => (fun (a : TBid) (b : TBid) => []) x.1 x.2)
@[simp] theorem c150_f : c150.f = 150 := rfl
@[simp] theorem c150_own : c150.own = false := rfl
theorem c150_inj : ∀ u_ v_ : TBid × TBid, ((fun x => (fun (a : TBid) (b : TBid) => [encTBid a, encTBid b]) x.1 x.2) u_).map nz = ((fun x => (fun (a : TBid) (b : TBid) => [encTBid a, encTBid b]) x.1 x.2) v_).map nz → u_ = v_ := by
  intro u_ v_ h
  obtain ⟨⟨a_Who, a_Cents, a_Seal⟩, ⟨b_Who, b_Cents, b_Seal⟩⟩ := u_
  obtain ⟨⟨a_Who', a_Cents', a_Seal'⟩, ⟨b_Who', b_Cents', b_Seal'⟩⟩ := v_
  simp [nz_lit, nz1_lit, nz_agg, nz_sl, nz1_sl, encTBid] at h
  first | (simp [h]; done) | (obtain ⟨⟩ := h; simp_all; done) | simp_all
@[simp] theorem c150_fn (a_Who : Int) (a_Cents : Int) (a_Seal : Int) (b_Who : Int) (b_Cents : Int) (b_Seal : Int) : c150.fn [.agg [.lit (.int .i64 a_Who), .lit (.int .i64 a_Cents), .lit (.int .i64 a_Seal)], .agg [.lit (.int .i64 b_Who), .lit (.int .i64 b_Cents), .lit (.int .i64 b_Seal)]] [] = some ((fun (a : TBid) (b : TBid) => True) ⟨a_Who, a_Cents, a_Seal⟩ ⟨b_Who, b_Cents, b_Seal⟩, (fun (a : TBid) (b : TBid) => (dB (decide (a = b)) : D)) ⟨a_Who, a_Cents, a_Seal⟩ ⟨b_Who, b_Cents, b_Seal⟩, (fun (a : TBid) (b : TBid) => []) ⟨a_Who, a_Cents, a_Seal⟩ ⟨b_Who, b_Cents, b_Seal⟩) :=
  mkCon_fn (fun x y h _ => c150_inj x y h) ((⟨a_Who, a_Cents, a_Seal⟩, ⟨b_Who, b_Cents, b_Seal⟩) : TBid × TBid) (by simp [nz, nz1, ML_nil, encTBid]) rfl
theorem c150_pc (a : TBid) (b : TBid) : PCo Try.prog 150 [encTBid a, encTBid b] (Tab.of []) (dB (decide (a = b))) (Tab.of []) := by
  obtain ⟨a_Who, a_Cents, a_Seal⟩ := a
  obtain ⟨b_Who, b_Cents, b_Seal⟩ := b
  refine pco_of_run [] (E := ⟨[], []⟩) (m := false) (base := 0) Env.ok_nil G_ok mix 300 6 Try.func150 (by kernel_rfl) rfl (by kernel_rfl) (by kernel_rfl) rfl ?_
  simp [Try.f150]
  all_goals first | omega | (rw [Bool.eq_iff_iff]; simp; omega) | grind
theorem c150_ok : c150.ok Try.prog := mkCon_ok fun ⟨a, b⟩ hpre => c150_pc a b
/-- loop.example/g03007/laws.szBidS -/
noncomputable def c72 : Con := mkCon 72 false (α := (List TBid) × Int) (fun x => (fun (l : List TBid) (left : Int) => [encLTBid l, dI left]) x.1 x.2) (fun _ => []) (fun x => (fun (l : List TBid) (left : Int) => l.length ≤ maxLen ∧ 0 ≤ left ∧ left ≤ 1099511627776) x.1 x.2) (fun x => (fun (l : List TBid) (left : Int) => (dI (if left - l.length < 0 then -1 else left - l.length) : D)) x.1 x.2) (fun x => (fun (l : List TBid) (left : Int) => []) x.1 x.2)
@[simp] theorem c72_f : c72.f = 72 := rfl
@[simp] theorem c72_own : c72.own = false := rfl
theorem c72_inj : ∀ u_ v_ : (List TBid) × Int, ((fun x => (fun (l : List TBid) (left : Int) => [encLTBid l, dI left]) x.1 x.2) u_).map nz = ((fun x => (fun (l : List TBid) (left : Int) => [encLTBid l, dI left]) x.1 x.2) v_).map nz → u_ = v_ := by
  intro u_ v_ h
  obtain ⟨l, left⟩ := u_
  obtain ⟨l', left'⟩ := v_
  simp [nz_lit, nz1_lit, nz_agg, nz_sl, nz1_sl, encLTBid] at h
  first | (simp [h]; done) | (obtain ⟨⟩ := h; simp_all; done) | simp_all
@[simp] theorem c72_fn (l : List TBid) (left : Int) : c72.fn [.sl false 3 yTBid (ML encTBid l), .lit (.int .i64 left)] [] = some ((fun (l : List TBid) (left : Int) => l.length ≤ maxLen ∧ 0 ≤ left ∧ left ≤ 1099511627776) l left, (fun (l : List TBid) (left : Int) => (dI (if left - l.length < 0 then -1 else left - l.length) : D)) l left, (fun (l : List TBid) (left : Int) => []) l left) :=
  mkCon_fn (fun x y h _ => c72_inj x y h) ((l, left) : (List TBid) × Int) (by simp [nz, nz1, ML_nil, encLTBid]) rfl
@[simp] theorem c72_fn1 (s_l : Nat) (z_l : D) (left : Int) : c72.fn [.sl false s_l z_l [], .lit (.int .i64 left)] [] = some ((fun (l : List TBid) (left : Int) => l.length ≤ maxLen ∧ 0 ≤ left ∧ left ≤ 1099511627776) [] left, (fun (l : List TBid) (left : Int) => (dI (if left - l.length < 0 then -1 else left - l.length) : D)) [] left, (fun (l : List TBid) (left : Int) => []) [] left) :=
  mkCon_fn (fun x y h _ => c72_inj x y h) (([], left) : (List TBid) × Int) (by simp [nz, nz1, ML_nil, encLTBid]) rfl
theorem c72_pc (l : List TBid) (left : Int) (hpre : l.length ≤ maxLen ∧ 0 ≤ left ∧ left ≤ 1099511627776) : PCo Try.prog 72 [encLTBid l, dI left] (Tab.of []) (dI (if left - l.length < 0 then -1 else left - l.length)) (Tab.of []) := by
  refine pco_of_run [] (E := ⟨[], []⟩) (m := false) (base := 0) Env.ok_nil G_ok mix 300 6 Try.func72 (by kernel_rfl) rfl (by kernel_rfl) (by kernel_rfl) rfl ?_
  simp [Try.f72]
  simp [maxLen] at hpre
  all_goals omega
theorem c72_ok : c72.ok Try.prog := mkCon_ok fun ⟨l, left⟩ hpre => c72_pc l left hpre
/-- loop.example/g03007/laws.toBidS -/
noncomputable def c74 : Con := mkCon 74 false (α := (List TBid)) (fun x => (fun (l : List TBid) => [encLTBid l]) x) (fun _ => []) (fun x => (fun (l : List TBid) => l.length ≤ 1099511627776) x) (fun x => (fun (l : List TBid) => (.own (0, 1) 3 0 l.length : D)) x) (fun x => (fun (l : List TBid) => [((0, 1), .arr false 3 yTBid (ML encTBid l))]) x)
@[simp] theorem c74_f : c74.f = 74 := rfl
@[simp] theorem c74_own : c74.own = false := rfl
theorem c74_inj : ∀ u_ v_ : (List TBid), ((fun x => (fun (l : List TBid) => [encLTBid l]) x) u_).map nz = ((fun x => (fun (l : List TBid) => [encLTBid l]) x) v_).map nz → u_ = v_ := by
  intro u_ v_ h
  obtain l := u_
  obtain l' := v_
  simp [nz_lit, nz1_lit, nz_agg, nz_sl, nz1_sl, encLTBid] at h
  first | (simp [h]; done) | (obtain ⟨⟩ := h; simp_all; done) | simp_all
@[simp] theorem c74_fn (l : List TBid) : c74.fn [.sl false 3 yTBid (ML encTBid l)] [] = some ((fun (l : List TBid) => l.length ≤ 1099511627776) l, (fun (l : List TBid) => (.own (0, 1) 3 0 l.length : D)) l, (fun (l : List TBid) => [((0, 1), .arr false 3 yTBid (ML encTBid l))]) l) :=
  mkCon_fn (fun x y h _ => c74_inj x y h) (l : (List TBid)) (by simp [nz, nz1, ML_nil, encLTBid]) rfl
@[simp] theorem c74_fn1 (s_l : Nat) (z_l : D) : c74.fn [.sl false s_l z_l []] [] = some ((fun (l : List TBid) => l.length ≤ 1099511627776) [], (fun (l : List TBid) => (.own (0, 1) 3 0 l.length : D)) [], (fun (l : List TBid) => [((0, 1), .arr false 3 yTBid (ML encTBid l))]) []) :=
  mkCon_fn (fun x y h _ => c74_inj x y h) ([] : (List TBid)) (by simp [nz, nz1, ML_nil, encLTBid]) rfl
theorem c74_pc (l : List TBid) (hpre : l.length ≤ 1099511627776) : PCo Try.prog 74 [encLTBid l] (Tab.of []) (.own (0, 1) 3 0 l.length) (Tab.of [((0, 1), .arr false 3 yTBid (ML encTBid l))]) := by
  refine pco_of_run [] (E := ⟨[c147], []⟩) (m := false) (base := 0) (Env.ok_cons c147_ok Env.ok_nil) G_ok mix 300 6 Try.func74 (by kernel_rfl) rfl (by kernel_rfl) (by kernel_rfl) rfl ?_
  simp [Try.f74]
  refine ⟨by omega, ?_⟩
  refine loop_inv (fun p : Nat => p ≤ l.length) (fun p => [(0, encLTBid l), (3, .own (0, 1) 3 0 l.length), (4, dI p)]) (fun p => [((0, 1), .arr false 3 yTBid (ML encTBid (l.take p ++ List.replicate (l.length - p) ⟨0, 0, 0⟩)))]) 2 (fun p => l.length - p) 0 100 (by simp) (by simp) (by first | (simp; done) | (simp; simp only [ML, List.map_replicate]; rfl)) ?_
  intro p hp
  simp
  refine ⟨fun hlt => ⟨by omega, by omega, Again.mk (p + 1) (by omega) (by simp [fill_step hlt]) (by first | omega | (simp; omega))⟩, fun hge => ?_⟩
  have : p = l.length := by omega
  subst this
  simp
theorem c74_ok : c74.ok Try.prog := mkCon_ok fun l hpre => c74_pc l hpre
/-- loop.example/g03007/laws.eqBidS -/
noncomputable def c76 : Con := mkCon 76 false (α := (List TBid) × (List TBid)) (fun x => (fun (a : List TBid) (b : List TBid) => [encLTBid a, encLTBid b]) x.1 x.2) (fun _ => []) (fun x => (fun (a : List TBid) (b : List TBid) => a.length ≤ 1099511627776 ∧ b.length ≤ 1099511627776) x.1 x.2) (fun x => (fun (a : List TBid) (b : List TBid) => (dB (decide (a = b)) : D)) x.1 x.2) (fun x => (fun (a : List TBid) (b : List TBid) => []) x.1 x.2)
@[simp] theorem c76_f : c76.f = 76 := rfl
@[simp] theorem c76_own : c76.own = false := rfl
theorem c76_inj : ∀ u_ v_ : (List TBid) × (List TBid), ((fun x => (fun (a : List TBid) (b : List TBid) => [encLTBid a, encLTBid b]) x.1 x.2) u_).map nz = ((fun x => (fun (a : List TBid) (b : List TBid) => [encLTBid a, encLTBid b]) x.1 x.2) v_).map nz → u_ = v_ := by
  intro u_ v_ h
  obtain ⟨a, b⟩ := u_
  obtain ⟨a', b'⟩ := v_
  simp [nz_lit, nz1_lit, nz_agg, nz_sl, nz1_sl, encLTBid] at h
  first | (simp [h]; done) | (obtain ⟨⟩ := h; simp_all; done) | simp_all
@[simp] theorem c76_fn (a : List TBid) (b : List TBid) : c76.fn [.sl false 3 yTBid (ML encTBid a), .sl false 3 yTBid (ML encTBid b)] [] = some ((fun (a : List TBid) (b : List TBid) => a.length ≤ 1099511627776 ∧ b.length ≤ 1099511627776) a b, (fun (a : List TBid) (b : List TBid) => (dB (decide (a = b)) : D)) a b, (fun (a : List TBid) (b : List TBid) => []) a b) :=
  mkCon_fn (fun x y h _ => c76_inj x y h) ((a, b) : (List TBid) × (List TBid)) (by simp [nz, nz1, ML_nil, encLTBid]) rfl
@[simp] theorem c76_fn1 (s_a : Nat) (z_a : D) (b : List TBid) : c76.fn [.sl false s_a z_a [], .sl false 3 yTBid (ML encTBid b)] [] = some ((fun (a : List TBid) (b : List TBid) => a.length ≤ 1099511627776 ∧ b.length ≤ 1099511627776) [] b, (fun (a : List TBid) (b : List TBid) => (dB (decide (a = b)) : D)) [] b, (fun (a : List TBid) (b : List TBid) => []) [] b) :=
  mkCon_fn (fun x y h _ => c76_inj x y h) (([], b) : (List TBid) × (List TBid)) (by simp [nz, nz1, ML_nil, encLTBid]) rfl
@[simp] theorem c76_fn2 (a : List TBid) (s_b : Nat) (z_b : D) : c76.fn [.sl false 3 yTBid (ML encTBid a), .sl false s_b z_b []] [] = some ((fun (a : List TBid) (b : List TBid) => a.length ≤ 1099511627776 ∧ b.length ≤ 1099511627776) a [], (fun (a : List TBid) (b : List TBid) => (dB (decide (a = b)) : D)) a [], (fun (a : List TBid) (b : List TBid) => []) a []) :=
  mkCon_fn (fun x y h _ => c76_inj x y h) ((a, []) : (List TBid) × (List TBid)) (by simp [nz, nz1, ML_nil, encLTBid]) rfl
@[simp] theorem c76_fn3 (s_a : Nat) (z_a : D) (s_b : Nat) (z_b : D) : c76.fn [.sl false s_a z_a [], .sl false s_b z_b []] [] = some ((fun (a : List TBid) (b : List TBid) => a.length ≤ 1099511627776 ∧ b.length ≤ 1099511627776) [] [], (fun (a : List TBid) (b : List TBid) => (dB (decide (a = b)) : D)) [] [], (fun (a : List TBid) (b : List TBid) => []) [] []) :=
  mkCon_fn (fun x y h _ => c76_inj x y h) (([], []) : (List TBid) × (List TBid)) (by simp [nz, nz1, ML_nil, encLTBid]) rfl
theorem c76_pc (a : List TBid) (b : List TBid) (hpre : a.length ≤ 1099511627776 ∧ b.length ≤ 1099511627776) : PCo Try.prog 76 [encLTBid a, encLTBid b] (Tab.of []) (dB (decide (a = b))) (Tab.of []) := by
  refine pco_of_run [] (E := ⟨[c150], []⟩) (m := false) (base := 0) (Env.ok_cons c150_ok Env.ok_nil) G_ok mix 300 6 Try.func76 (by kernel_rfl) rfl (by kernel_rfl) (by kernel_rfl) rfl ?_
  simp [Try.f76]
  obtain ⟨pre1, pre2⟩ := hpre
  refine ⟨fun h => ?_, fun h => by intro e; subst e; exact absurd rfl h⟩
  refine loop_inv (fun p : Nat => p ≤ a.length ∧ a.take p = b.take p) (fun p => [(0, encLTBid a), (1, encLTBid b), (5, dI p)]) (fun _ => []) 1 (fun p => a.length - p) 0 100 (by simp) (by simp) (by simp) ?_
  intro p ⟨hp, hi⟩
  simp
  refine ⟨fun hlt => ⟨by omega, fun h2 => ⟨by omega, Again.mk (p + 1) ⟨by omega, take_eq_step hi (by omega) (by omega) h2⟩ (by simp) (by first | omega | (simp; omega))⟩, fun h2 => by intro e; subst e; exact absurd rfl h2⟩, fun hge => ?_⟩
  exact take_eq_full hi (by omega) (by omega)
theorem c76_ok : c76.ok Try.prog := mkCon_ok fun ⟨a, b⟩ hpre => c76_pc a b hpre
def mIsOpened (x : TBid) (salt : Int) : Bool := mIsBid x && decide (mSealBid salt x.Who x.Cents = x.Seal)
def dup : List Int → Bool
  | [] => false
  | x :: r => decide (x ∈ r) || dup r
theorem dup_snoc (x : Int) : ∀ (l : List Int), dup (l ++ [x]) = (dup l || decide (x ∈ l))
  | [] => rfl
  | y :: r => by
    simp only [List.cons_append, dup, dup_snoc x r, List.mem_append, List.mem_cons, List.mem_nil_iff, or_false, Bool.decide_or]
    by_cases h : x = y
    · subst h; cases decide (x ∈ r) <;> cases dup r <;> simp
    · have h2 : ¬ y = x := fun e => h e.symm
      simp only [h, h2, decide_false, Bool.or_false, Bool.false_or]
      cases decide (y ∈ r) <;> cases decide (x ∈ r) <;> cases dup r <;> rfl
theorem dup_app (b : List Int) : ∀ (a : List Int), dup a = true → dup (a ++ b) = true
  | [], h => by simp [dup] at h
  | x :: a, h => by
    simp only [dup, Bool.or_eq_true, decide_eq_true_eq] at h
    simp only [List.cons_append, dup, Bool.or_eq_true, decide_eq_true_eq, List.mem_append]
    rcases h with h | h
    · exact .inl (.inl h)
    · exact .inr (dup_app b a h)
def whos (l : List TBid) : List Int := l.map TBid.Who
theorem whos_at {l : List TBid} {p : Nat} (h : p < l.length) : whos (l.take (p + 1)) = whos (l.take p) ++ [(l[p]?.getD default).Who] := by
  rw [take_at (d := default) h]; simp [whos]
theorem whos_take {l : List TBid} {p : Nat} (h : dup (whos (l.take p)) = true) : dup (whos l) = true := by
  have := dup_app (whos (l.drop p)) _ h
  rwa [whos, whos, ← List.map_append, List.take_append_drop] at this
def allBid (l : List TBid) : Bool := l.all mIsBid
def mAreBids (l : List TBid) : Bool := decide (l.length ≤ 20) && allBid l && !dup (whos l)
theorem all_take_at {α : Type} {w : α → Bool} {l : List α} {k : Nat} {d : α} (h : k < l.length) : (l.take (k + 1)).all w = ((l.take k).all w && w (l[k]?.getD d)) := by
  rw [take_at (d := d) h]; simp
theorem all_get {α : Type} {w : α → Bool} {l : List α} {k : Nat} {d : α} (h : k < l.length) (hw : w (l[k]?.getD d) = false) : l.all w = false := by
  rw [← Bool.not_eq_true, List.all_eq_true]
  intro h2
  rw [h2 _ (getD_mem h)] at hw
  simp at hw
def memW (v : Int) (l : List TBid) : Bool := decide (v ∈ whos l)
theorem memW_at {v : Int} {l : List TBid} {k : Nat} (h : k < l.length) : memW v (l.take (k + 1)) = (memW v (l.take k) || decide ((l[k]?.getD default).Who = v)) := by
  rw [memW, whos_at h, memW]
  rw [Bool.eq_iff_iff]; simp; grind
theorem memW_mono {v : Int} {l : List TBid} {a b : Nat} (h : a ≤ b) (ha : memW v (l.take a) = true) : memW v (l.take b) = true := by
  simp only [memW, decide_eq_true_eq, whos, List.mem_map] at ha ⊢
  obtain ⟨x, hx, hw⟩ := ha
  refine ⟨x, ?_, hw⟩
  have e : l.take a = (l.take b).take a := by rw [List.take_take, Nat.min_eq_left h]
  rw [e] at hx
  exact List.mem_of_mem_take hx
/-- loop.example/g03007/spec.AreBids -/
noncomputable def c145 : Con := mkCon 145 false (α := (List TBid)) (fun x => (fun (l : List TBid) => [encLTBid l]) x) (fun _ => []) (fun x => (fun (l : List TBid) => l.length ≤ 1099511627776) x) (fun x => (fun (l : List TBid) => (dB (mAreBids l) : D)) x) (fun x => (fun (l : List TBid) => []) x)
@[simp] theorem c145_f : c145.f = 145 := rfl
@[simp] theorem c145_own : c145.own = false := rfl
theorem c145_inj : ∀ u_ v_ : (List TBid), ((fun x => (fun (l : List TBid) => [encLTBid l]) x) u_).map nz = ((fun x => (fun (l : List TBid) => [encLTBid l]) x) v_).map nz → u_ = v_ := by
  intro u_ v_ h
  obtain l := u_
  obtain l' := v_
  simp [nz_lit, nz1_lit, nz_agg, nz_sl, nz1_sl, encLTBid] at h
  first | (simp [h]; done) | (obtain ⟨⟩ := h; simp_all; done) | simp_all
@[simp] theorem c145_fn (l : List TBid) : c145.fn [.sl false 3 yTBid (ML encTBid l)] [] = some ((fun (l : List TBid) => l.length ≤ 1099511627776) l, (fun (l : List TBid) => (dB (mAreBids l) : D)) l, (fun (l : List TBid) => []) l) :=
  mkCon_fn (fun x y h _ => c145_inj x y h) (l : (List TBid)) (by simp [nz, nz1, ML_nil, encLTBid]) rfl
@[simp] theorem c145_fn1 (s_l : Nat) (z_l : D) : c145.fn [.sl false s_l z_l []] [] = some ((fun (l : List TBid) => l.length ≤ 1099511627776) [], (fun (l : List TBid) => (dB (mAreBids l) : D)) [], (fun (l : List TBid) => []) []) :=
  mkCon_fn (fun x y h _ => c145_inj x y h) ([] : (List TBid)) (by simp [nz, nz1, ML_nil, encLTBid]) rfl
theorem c145_pc (l : List TBid) (hpre : l.length ≤ 1099511627776) : PCo Try.prog 145 [encLTBid l] (Tab.of []) (dB (mAreBids l)) (Tab.of []) := by
  refine pco_of_run [] (E := ⟨[c105], []⟩) (m := false) (base := 0) (Env.ok_cons c105_ok Env.ok_nil) G_ok mix 300 6 Try.func145 (by kernel_rfl) rfl (by kernel_rfl) (by kernel_rfl) rfl ?_
  simp [Try.f145]
  refine loop_inv (fun p : Nat => p ≤ l.length ∧ allBid (l.take p) = true ∧ dup (whos (l.take p)) = false) (fun p => [(0, encLTBid l), (3, dI p)]) (fun _ => []) 1 (fun p => l.length - p) 0 400 (by simp) (by simp [dup, whos, allBid]) (by simp) ?_
  intro p ⟨hp, hi, ht⟩
  simp
  refine ⟨fun hlt => ?_, fun hge => ?_⟩
  · have ha : allBid (l.take (p + 1)) = (allBid (l.take p) && mIsBid (l[p]?.getD default)) := all_take_at (w := mIsBid) (d := default) hlt
    have hx := whos_at hlt
    refine ⟨by repeat' (first | omega | refine And.intro ?_ ?_ | intro _), fun h => ?_, fun h1 h2 => ?_⟩
    · have : allBid l = false := all_get (w := mIsBid) (d := default) hlt (by grind [mIsBid])
      rw [mAreBids, this]; simp
    refine loop_inv (fun k : Nat => k ≤ p ∧ memW (l[p]?.getD default).Who (l.take k) = false) (fun k => [(0, encLTBid l), (3, dI p), (4, dI k)]) (fun _ => []) 1 (fun k => p - k) 0 400 (by simp) (by simp [memW, whos]) (by simp) ?_
    intro k ⟨hk, hk2⟩
    simp
    refine ⟨fun hkp => ?_, fun hkp => ?_⟩
    · have hkl : k < l.length := by omega
      have hks := memW_at (v := (l[p]?.getD default).Who) hkl
      refine ⟨by omega, fun h => ?_, fun h => ⟨by omega, Again.mk (k + 1) ⟨by omega, by rw [hks, hk2]; simp [h]⟩ (by simp) (by first | omega | (simp; omega))⟩⟩
      have h6 : memW (l[p]?.getD default).Who (l.take p) = true := memW_mono (show k + 1 ≤ p by omega) (by rw [hks]; simp [h])
      have h7 : dup (whos (l.take (p + 1))) = true := by rw [hx, dup_snoc]; simp only [memW] at h6; rw [h6]; simp
      rw [mAreBids, whos_take h7]; simp
    · have hkp2 : k = p := by omega
      subst hkp2
      simp only [memW] at hk2
      refine ⟨by omega, Again.mk (k + 1) ⟨by omega, (show allBid (l.take (k + 1)) = true by rw [ha, hi]; simp [mIsBid, h1, h2]), by rw [hx, dup_snoc, ht, hk2]; rfl⟩ (by simp) (by first | omega | (simp; omega))⟩
  · rw [List.take_of_length_le hge] at *; rw [mAreBids, hi, ht]; simp; omega
theorem c145_ok : c145.ok Try.prog := mkCon_ok fun l hpre => c145_pc l hpre
theorem posK_none {v : Int} {ks : List Int} (h : v ∉ ks) : posK [v] (keysI ks) = none := by
  have := posK_keys (v := v) (ks := ks)
  simp only [h, decide_false] at this
  cases hq : posK [v] (keysI ks) <;> simp [hq] at this ⊢
theorem insI_new {ks : List Int} {v : Int} (h : v ∉ ks) : insI ks v = ks ++ [v] := by simp [insI, h]
theorem lookK_keysE {v : Int} {f : Int → D} : ∀ {ks : List Int}, lookK (keysI ks) (ks.map f) [v] = if v ∈ ks then some (f v) else none
  | [] => rfl
  | k :: ks => by
    have := lookK_keysE (v := v) (f := f) (ks := ks)
    simp only [lookK, keysI, List.map_cons, posK] at this ⊢
    by_cases h : v = k
    · subst h; simp
    · simp only [List.cons.injEq, h, and_true, if_false, List.mem_cons, false_or]
      rw [← this]
      cases posK [v] (List.map (fun k => [k]) ks) <;> simp
theorem updK_keysE {ks : List Int} {v : Int} {f : Int → D} (h : v ∉ ks) : updK (keysI ks) (ks.map f) [v] (f v) = (insI ks v).map f := by
  simp [updK, posK_none h, insI, h]
/-- loop.example/g03007/impl.AreBids -/
noncomputable def c148 : Con := mkCon 148 false (α := (List TBid)) (fun x => (fun (l : List TBid) => [encLTBid l]) x) (fun _ => []) (fun x => (fun (l : List TBid) => l.length ≤ 1099511627776) x) (fun x => (fun (l : List TBid) => (dB (mAreBids l) : D)) x) (fun x => (fun (l : List TBid) => []) x)
@[simp] theorem c148_f : c148.f = 148 := rfl
@[simp] theorem c148_own : c148.own = false := rfl
theorem c148_inj : ∀ u_ v_ : (List TBid), ((fun x => (fun (l : List TBid) => [encLTBid l]) x) u_).map nz = ((fun x => (fun (l : List TBid) => [encLTBid l]) x) v_).map nz → u_ = v_ := by
  intro u_ v_ h
  obtain l := u_
  obtain l' := v_
  simp [nz_lit, nz1_lit, nz_agg, nz_sl, nz1_sl, encLTBid] at h
  first | (simp [h]; done) | (obtain ⟨⟩ := h; simp_all; done) | simp_all
@[simp] theorem c148_fn (l : List TBid) : c148.fn [.sl false 3 yTBid (ML encTBid l)] [] = some ((fun (l : List TBid) => l.length ≤ 1099511627776) l, (fun (l : List TBid) => (dB (mAreBids l) : D)) l, (fun (l : List TBid) => []) l) :=
  mkCon_fn (fun x y h _ => c148_inj x y h) (l : (List TBid)) (by simp [nz, nz1, ML_nil, encLTBid]) rfl
@[simp] theorem c148_fn1 (s_l : Nat) (z_l : D) : c148.fn [.sl false s_l z_l []] [] = some ((fun (l : List TBid) => l.length ≤ 1099511627776) [], (fun (l : List TBid) => (dB (mAreBids l) : D)) [], (fun (l : List TBid) => []) []) :=
  mkCon_fn (fun x y h _ => c148_inj x y h) ([] : (List TBid)) (by simp [nz, nz1, ML_nil, encLTBid]) rfl
theorem c148_pc (l : List TBid) (hpre : l.length ≤ 1099511627776) : PCo Try.prog 148 [encLTBid l] (Tab.of []) (dB (mAreBids l)) (Tab.of []) := by
  refine pco_of_run [] (E := ⟨[c219], []⟩) (m := false) (base := 0) (Env.ok_cons c219_ok Env.ok_nil) G_ok mix 300 6 Try.func148 (by kernel_rfl) rfl (by kernel_rfl) (by kernel_rfl) rfl ?_
  simp [Try.f148]
  refine ⟨fun h => by simp [mAreBids]; omega, fun h20 => ?_⟩
  refine loop_inv (fun p : Nat => p ≤ l.length ∧ allBid (l.take p) = true ∧ dup (whos (l.take p)) = false) (fun p => [(3, .mp (0, 1)), (10, encLTBid l), (11, dI l.length), (12, dI p)]) (fun p => [((0, 1), .map 0 (keysI (whos (l.take p))) (dB false) ((whos (l.take p)).map fun _ => dB true))]) 2 (fun p => l.length - p) 0 400 (by simp) (by simp [dup, whos, allBid]) (by simp [whos, keysI]) ?_
  intro p ⟨hp, hi, ht⟩
  simp
  refine ⟨fun hlt => ?_, fun hge => ?_⟩
  · have ha : allBid (l.take (p + 1)) = (allBid (l.take p) && mIsBid (l[p]?.getD default)) := all_take_at (w := mIsBid) (d := default) hlt
    have hx := whos_at hlt
    by_cases hm : (l[p]?.getD default).Who ∈ whos (l.take p)
    · simp [lookK_keysE, hm]
      have h7 : dup (whos (l.take (p + 1))) = true := by rw [hx, dup_snoc]; simp [hm]
      exact ⟨hlt, by rw [mAreBids, whos_take h7]; simp⟩
    · simp [lookK_keysE, hm]
      refine ⟨hlt, fun h => ?_, fun h => ⟨by omega, Again.mk (p + 1) ⟨by omega, by rw [ha, hi, h]; rfl, by rw [hx, dup_snoc, ht]; simp [hm]⟩ (by simp [hx, ← insI_new hm]; exact updK_keysE (f := fun _ => dB true) hm) (by first | omega | (simp; omega))⟩⟩
      have : allBid l = false := all_get (w := mIsBid) (d := default) hlt h
      rw [mAreBids, this]; simp
  · rw [List.take_of_length_le hge] at *; rw [mAreBids, hi, ht]; simp; omega
theorem c148_ok : c148.ok Try.prog := mkCon_ok fun l hpre => c148_pc l hpre
end Go.Proofs.Ytnkggfhgmdbfpaa
