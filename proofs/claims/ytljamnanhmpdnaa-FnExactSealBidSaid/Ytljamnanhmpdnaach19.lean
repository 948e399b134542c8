/- Contracts of the functions that the laws run. -/
import Derived.Test.Ytljamnanhmpdnaach03
import Derived.Test.YtljamnanhmpdnaaEngB
namespace Go.Proofs.Ytljamnanhmpdnaa
open Go Go.Eng
set_option linter.unusedSimpArgs false
set_option linter.unusedVariables false
set_option maxRecDepth 10000
set_option maxHeartbeats 1000000
def mSealBid (a b c : Int) : Int := mHash [a, b, c]
@[simp] theorem c59_three (a b c : Int) : c59.fn [.sl false 1 (.lit (.int .i64 0)) [dI a, dI b, dI c]] [] = some (3 ≤ 1099511627776, dI (mHash [a, b, c]), []) := c59_fn [a, b, c]
@[simp] theorem c60_three (a b c : Int) : c60.fn [.sl false 1 (.lit (.int .i64 0)) [dI a, dI b, dI c]] [] = some (3 ≤ 1099511627776, dI (mHash [a, b, c]), []) := c60_fn [a, b, c]
/-- loop.example/g03007/spec.SealBid -/
noncomputable def c37 : Con := mkCon 37 false (α := Int × Int × Int) (fun x => (fun (a : Int) (b : Int) (c : Int) => [dI a, dI b, dI c]) x.1 x.2.1 x.2.2) (fun _ => []) (fun x => (fun (a : Int) (b : Int) (c : Int) => True) x.1 x.2.1 x.2.2) (fun x => (fun (a : Int) (b : Int) (c : Int) => (dI (mSealBid a b c) : D)) x.1 x.2.1 x.2.2) (fun x => (fun (a : Int) (b : Int) (c : Int) => []) x.1 x.2.1 x.2.2)
@[simp] theorem c37_f : c37.f = 37 := rfl
@[simp] theorem c37_own : c37.own = false := rfl
theorem c37_inj : ∀ u_ v_ : Int × Int × Int, ((fun x => (fun (a : Int) (b : Int) (c : Int) => [dI a, dI b, dI c]) x.1 x.2.1 x.2.2) u_).map nz = ((fun x => (fun (a : Int) (b : Int) (c : Int) => [dI a, dI b, dI c]) x.1 x.2.1 x.2.2) v_).map nz → u_ = v_ := by
  intro u_ v_ h
  obtain ⟨a, b, c⟩ := u_
  obtain ⟨a', b', c'⟩ := v_
  simp [nz_lit, nz1_lit, nz_agg, nz_sl, nz1_sl] at h
  first | (simp [h]; done) | (obtain ⟨⟩ := h; simp_all; done) | simp_all
@[simp] theorem c37_fn (a : Int) (b : Int) (c : Int) : c37.fn [.lit (.int .i64 a), .lit (.int .i64 b), .lit (.int .i64 c)] [] = some ((fun (a : Int) (b : Int) (c : Int) => True) a b c, (fun (a : Int) (b : Int) (c : Int) => (dI (mSealBid a b c) : D)) a b c, (fun (a : Int) (b : Int) (c : Int) => []) a b c) :=
  mkCon_fn (fun x y h _ => c37_inj x y h) ((a, b, c) : Int × Int × Int) (by simp [nz, nz1, ML_nil]) rfl
theorem c37_pc (a : Int) (b : Int) (c : Int) : PCo Try.prog 37 [dI a, dI b, dI c] (Tab.of []) (dI (mSealBid a b c)) (Tab.of []) := by
  refine pco_of_run [] (E := ⟨[c59], []⟩) (m := false) (base := 0) (Env.ok_cons c59_ok Env.ok_nil) G_ok mix 300 6 Try.func37 (by kernel_rfl) rfl (by kernel_rfl) (by kernel_rfl) rfl ?_
  simp [Try.f37]
  rfl
theorem c37_ok : c37.ok Try.prog := mkCon_ok fun ⟨a, b, c⟩ hpre => c37_pc a b c
/-- loop.example/g03007/impl.SealBid -/
noncomputable def c38 : Con := mkCon 38 false (α := Int × Int × Int) (fun x => (fun (a : Int) (b : Int) (c : Int) => [dI a, dI b, dI c]) x.1 x.2.1 x.2.2) (fun _ => []) (fun x => (fun (a : Int) (b : Int) (c : Int) => True) x.1 x.2.1 x.2.2) (fun x => (fun (a : Int) (b : Int) (c : Int) => (dI (mSealBid a b c) : D)) x.1 x.2.1 x.2.2) (fun x => (fun (a : Int) (b : Int) (c : Int) => []) x.1 x.2.1 x.2.2)
@[simp] theorem c38_f : c38.f = 38 := rfl
@[simp] theorem c38_own : c38.own = false := rfl
theorem c38_inj : ∀ u_ v_ : Int × Int × Int, ((fun x => (fun (a : Int) (b : Int) (c : Int) => [dI a, dI b, dI c]) x.1 x.2.1 x.2.2) u_).map nz = ((fun x => (fun (a : Int) (b : Int) (c : Int) => [dI a, dI b, dI c]) x.1 x.2.1 x.2.2) v_).map nz → u_ = v_ := by
  intro u_ v_ h
  obtain ⟨a, b, c⟩ := u_
  obtain ⟨a', b', c'⟩ := v_
  simp [nz_lit, nz1_lit, nz_agg, nz_sl, nz1_sl] at h
  first | (simp [h]; done) | (obtain ⟨⟩ := h; simp_all; done) | simp_all
@[simp] theorem c38_fn (a : Int) (b : Int) (c : Int) : c38.fn [.lit (.int .i64 a), .lit (.int .i64 b), .lit (.int .i64 c)] [] = some ((fun (a : Int) (b : Int) (c : Int) => True) a b c, (fun (a : Int) (b : Int) (c : Int) => (dI (mSealBid a b c) : D)) a b c, (fun (a : Int) (b : Int) (c : Int) => []) a b c) :=
  mkCon_fn (fun x y h _ => c38_inj x y h) ((a, b, c) : Int × Int × Int) (by simp [nz, nz1, ML_nil]) rfl
theorem c38_pc (a : Int) (b : Int) (c : Int) : PCo Try.prog 38 [dI a, dI b, dI c] (Tab.of []) (dI (mSealBid a b c)) (Tab.of []) := by
  refine pco_of_run [] (E := ⟨[c60], []⟩) (m := false) (base := 0) (Env.ok_cons c60_ok Env.ok_nil) G_ok mix 300 6 Try.func38 (by kernel_rfl) rfl (by kernel_rfl) (by kernel_rfl) rfl ?_
  simp [Try.f38]
  rfl
theorem c38_ok : c38.ok Try.prog := mkCon_ok fun ⟨a, b, c⟩ hpre => c38_pc a b c
/-- loop.example/g03007/laws.FnExactSealBid -/
theorem law9 (a : Int) (wa : inR .i64 a) (b : Int) (wb : inR .i64 b) (c : Int) (wc : inR .i64 c) : PCo Try.prog 9 [dI a, dI b, dI c] (Tab.of []) (dB true) (Tab.of []) := by
  refine pco_of_run [] (E := ⟨[c37, c38], []⟩) (m := false) (base := 0) (Env.ok_cons c37_ok (Env.ok_cons c38_ok Env.ok_nil)) G_ok mix 400 6 Try.func9 (by kernel_rfl) rfl (by kernel_rfl) (by kernel_rfl) rfl ?_
  simp [Try.f9]
  repeat' (first | omega | assumption | refine And.intro ?_ ?_ | intro _)
  all_goals first | omega | grind | (split at * <;> omega)
theorem law9_pc (D0 : D) (h0 : Sh G 9 3 D0) (D1 : D) (h1 : Sh G 9 3 D1) (D2 : D) (h2 : Sh G 9 3 D2) : PC Try.prog 9 [D0, D1, D2] (dB true) [] := by
  obtain ⟨a, rfl, wa⟩ := sh3 (n := 8) h0
  obtain ⟨b, rfl, wb⟩ := sh3 (n := 8) h1
  obtain ⟨c, rfl, wc⟩ := sh3 (n := 8) h2
  exact law9 a wa b wb c wc
def mIsBid (x : TBid) : Bool := mIn x.Who 1 999 && mIn x.Cents 1 10000000
/-- (loop.example/g03007/impl.Bid).hasWho -/
noncomputable def c91 : Con := mkCon 91 false (α := TBid) (fun x => (fun (x : TBid) => [encTBid x]) x) (fun _ => []) (fun x => (fun (x : TBid) => True) x) (fun x => (fun (x : TBid) => (dB (mIn x.Who 1 999) : D)) x) (fun x => (fun (x : TBid) => []) x)
@[simp] theorem c91_f : c91.f = 91 := rfl
@[simp] theorem c91_own : c91.own = false := rfl
theorem c91_inj : ∀ u_ v_ : TBid, ((fun x => (fun (x : TBid) => [encTBid x]) x) u_).map nz = ((fun x => (fun (x : TBid) => [encTBid x]) x) v_).map nz → u_ = v_ := by
  intro u_ v_ h
  obtain ⟨x_Who, x_Cents, x_Seal⟩ := u_
  obtain ⟨x_Who', x_Cents', x_Seal'⟩ := v_
  simp [nz_lit, nz1_lit, nz_agg, nz_sl, nz1_sl, encTBid] at h
  first | (simp [h]; done) | (obtain ⟨⟩ := h; simp_all; done) | simp_all
@[simp] theorem c91_fn (x_Who : Int) (x_Cents : Int) (x_Seal : Int) : c91.fn [.agg [.lit (.int .i64 x_Who), .lit (.int .i64 x_Cents), .lit (.int .i64 x_Seal)]] [] = some ((fun (x : TBid) => True) ⟨x_Who, x_Cents, x_Seal⟩, (fun (x : TBid) => (dB (mIn x.Who 1 999) : D)) ⟨x_Who, x_Cents, x_Seal⟩, (fun (x : TBid) => []) ⟨x_Who, x_Cents, x_Seal⟩) :=
  mkCon_fn (fun x y h _ => c91_inj x y h) (⟨x_Who, x_Cents, x_Seal⟩ : TBid) (by simp [nz, nz1, ML_nil, encTBid]) rfl
theorem c91_pc (x : TBid) : PCo Try.prog 91 [encTBid x] (Tab.of []) (dB (mIn x.Who 1 999)) (Tab.of []) := by
  obtain ⟨x_Who, x_Cents, x_Seal⟩ := x
  refine pco_of_run [] (E := ⟨[c80], []⟩) (m := false) (base := 0) (Env.ok_cons c80_ok Env.ok_nil) G_ok mix 300 6 Try.func91 (by kernel_rfl) rfl (by kernel_rfl) (by kernel_rfl) rfl ?_
  simp [Try.f91]
  all_goals first | omega | (rw [Bool.eq_iff_iff]; simp; omega) | grind
theorem c91_ok : c91.ok Try.prog := mkCon_ok fun x hpre => c91_pc x
/-- (loop.example/g03007/impl.Bid).hasCents -/
noncomputable def c92 : Con := mkCon 92 false (α := TBid) (fun x => (fun (x : TBid) => [encTBid x]) x) (fun _ => []) (fun x => (fun (x : TBid) => True) x) (fun x => (fun (x : TBid) => (dB (mIn x.Cents 1 10000000) : D)) x) (fun x => (fun (x : TBid) => []) x)
@[simp] theorem c92_f : c92.f = 92 := rfl
@[simp] theorem c92_own : c92.own = false := rfl
theorem c92_inj : ∀ u_ v_ : TBid, ((fun x => (fun (x : TBid) => [encTBid x]) x) u_).map nz = ((fun x => (fun (x : TBid) => [encTBid x]) x) v_).map nz → u_ = v_ := by
  intro u_ v_ h
  obtain ⟨x_Who, x_Cents, x_Seal⟩ := u_
  obtain ⟨x_Who', x_Cents', x_Seal'⟩ := v_
  simp [nz_lit, nz1_lit, nz_agg, nz_sl, nz1_sl, encTBid] at h
  first | (simp [h]; done) | (obtain ⟨⟩ := h; simp_all; done) | simp_all
@[simp] theorem c92_fn (x_Who : Int) (x_Cents : Int) (x_Seal : Int) : c92.fn [.agg [.lit (.int .i64 x_Who), .lit (.int .i64 x_Cents), .lit (.int .i64 x_Seal)]] [] = some ((fun (x : TBid) => True) ⟨x_Who, x_Cents, x_Seal⟩, (fun (x : TBid) => (dB (mIn x.Cents 1 10000000) : D)) ⟨x_Who, x_Cents, x_Seal⟩, (fun (x : TBid) => []) ⟨x_Who, x_Cents, x_Seal⟩) :=
  mkCon_fn (fun x y h _ => c92_inj x y h) (⟨x_Who, x_Cents, x_Seal⟩ : TBid) (by simp [nz, nz1, ML_nil, encTBid]) rfl
theorem c92_pc (x : TBid) : PCo Try.prog 92 [encTBid x] (Tab.of []) (dB (mIn x.Cents 1 10000000)) (Tab.of []) := by
  obtain ⟨x_Who, x_Cents, x_Seal⟩ := x
  refine pco_of_run [] (E := ⟨[c80], []⟩) (m := false) (base := 0) (Env.ok_cons c80_ok Env.ok_nil) G_ok mix 300 6 Try.func92 (by kernel_rfl) rfl (by kernel_rfl) (by kernel_rfl) rfl ?_
  simp [Try.f92]
  all_goals first | omega | (rw [Bool.eq_iff_iff]; simp; omega) | grind
theorem c92_ok : c92.ok Try.prog := mkCon_ok fun x hpre => c92_pc x
/-- loop.example/g03007/impl.isBid -/
noncomputable def c73 : Con := mkCon 73 false (α := TBid) (fun x => (fun (x : TBid) => [encTBid x]) x) (fun _ => []) (fun x => (fun (x : TBid) => True) x) (fun x => (fun (x : TBid) => (dB (mIsBid x) : D)) x) (fun x => (fun (x : TBid) => []) x)
@[simp] theorem c73_f : c73.f = 73 := rfl
@[simp] theorem c73_own : c73.own = false := rfl
theorem c73_inj : ∀ u_ v_ : TBid, ((fun x => (fun (x : TBid) => [encTBid x]) x) u_).map nz = ((fun x => (fun (x : TBid) => [encTBid x]) x) v_).map nz → u_ = v_ := by
  intro u_ v_ h
  obtain ⟨x_Who, x_Cents, x_Seal⟩ := u_
  obtain ⟨x_Who', x_Cents', x_Seal'⟩ := v_
  simp [nz_lit, nz1_lit, nz_agg, nz_sl, nz1_sl, encTBid] at h
  first | (simp [h]; done) | (obtain ⟨⟩ := h; simp_all; done) | simp_all
@[simp] theorem c73_fn (x_Who : Int) (x_Cents : Int) (x_Seal : Int) : c73.fn [.agg [.lit (.int .i64 x_Who), .lit (.int .i64 x_Cents), .lit (.int .i64 x_Seal)]] [] = some ((fun (x : TBid) => True) ⟨x_Who, x_Cents, x_Seal⟩, (fun (x : TBid) => (dB (mIsBid x) : D)) ⟨x_Who, x_Cents, x_Seal⟩, (fun (x : TBid) => []) ⟨x_Who, x_Cents, x_Seal⟩) :=
  mkCon_fn (fun x y h _ => c73_inj x y h) (⟨x_Who, x_Cents, x_Seal⟩ : TBid) (by simp [nz, nz1, ML_nil, encTBid]) rfl
theorem c73_pc (x : TBid) : PCo Try.prog 73 [encTBid x] (Tab.of []) (dB (mIsBid x)) (Tab.of []) := by
  obtain ⟨x_Who, x_Cents, x_Seal⟩ := x
  refine pco_of_run [] (E := ⟨[c91, c92, c91, c92], []⟩) (m := false) (base := 0) (Env.ok_cons c91_ok (Env.ok_cons c92_ok (Env.ok_cons c91_ok (Env.ok_cons c92_ok Env.ok_nil)))) G_ok mix 300 6 Try.func73 (by kernel_rfl) rfl (by kernel_rfl) (by kernel_rfl) rfl ?_
  simp [Try.f73]
  refine loop_unroll 400 ?_
  simp [mIsBid]
  first | done | grind
theorem c73_ok : c73.ok Try.prog := mkCon_ok fun x hpre => c73_pc x
/-- loop.example/g03007/laws.toBid -/
noncomputable def c40 : Con := mkCon 40 false (α := TBid) (fun x => (fun (a : TBid) => [encTBid a]) x) (fun _ => []) (fun x => (fun (a : TBid) => True) x) (fun x => (fun (a : TBid) => (encTBid a : D)) x) (fun x => (fun (a : TBid) => []) x)
@[simp] theorem c40_f : c40.f = 40 := rfl
@[simp] theorem c40_own : c40.own = false := rfl
theorem c40_inj : ∀ u_ v_ : TBid, ((fun x => (fun (a : TBid) => [encTBid a]) x) u_).map nz = ((fun x => (fun (a : TBid) => [encTBid a]) x) v_).map nz → u_ = v_ := by
  intro u_ v_ h
  obtain ⟨a_Who, a_Cents, a_Seal⟩ := u_
  obtain ⟨a_Who', a_Cents', a_Seal'⟩ := v_
  simp [nz_lit, nz1_lit, nz_agg, nz_sl, nz1_sl, encTBid] at h
  first | (simp [h]; done) | (obtain ⟨⟩ := h; simp_all; done) | simp_all
@[simp] theorem c40_fn (a_Who : Int) (a_Cents : Int) (a_Seal : Int) : c40.fn [.agg [.lit (.int .i64 a_Who), .lit (.int .i64 a_Cents), .lit (.int .i64 a_Seal)]] [] = some ((fun (a : TBid) => True) ⟨a_Who, a_Cents, a_Seal⟩, (fun (a : TBid) => (encTBid a : D)) ⟨a_Who, a_Cents, a_Seal⟩, (fun (a : TBid) => []) ⟨a_Who, a_Cents, a_Seal⟩) :=
  mkCon_fn (fun x y h _ => c40_inj x y h) (⟨a_Who, a_Cents, a_Seal⟩ : TBid) (by simp [nz, nz1, ML_nil, encTBid]) rfl
theorem c40_pc (a : TBid) : PCo Try.prog 40 [encTBid a] (Tab.of []) (encTBid a) (Tab.of []) := by
  obtain ⟨a_Who, a_Cents, a_Seal⟩ := a
  refine pco_of_run [] (E := ⟨[], []⟩) (m := false) (base := 0) Env.ok_nil G_ok mix 300 6 Try.func40 (by kernel_rfl) rfl (by kernel_rfl) (by kernel_rfl) rfl ?_
  simp [Try.f40]
  all_goals first | omega | (rw [Bool.eq_iff_iff]; simp; omega) | grind
theorem c40_ok : c40.ok Try.prog := mkCon_ok fun a hpre => c40_pc a
/-- loop.example/g03007/laws.eqBid -/
noncomputable def c74 : Con := mkCon 74 false (α := TBid × TBid) (fun x => (fun (a : TBid) (b : TBid) => [encTBid a, encTBid b]) x.1 x.2) (fun _ => []) (fun x => (fun (a : TBid) (b : TBid) => True) x.1 x.2) (fun x => (fun (a : TBid) (b : TBid) => (dB (decide (a = b)) : D)) x.1 x.2) (fun x => (fun (a : TBid) (b : TBid) => []) x.1 x.2)
@[simp] theorem c74_f : c74.f = 74 := rfl
@[simp] theorem c74_own : c74.own = false := rfl
theorem c74_inj : ∀ u_ v_ : TBid × TBid, ((fun x => (fun (a : TBid) (b : TBid) => [encTBid a, encTBid b]) x.1 x.2) u_).map nz = ((fun x => (fun (a : TBid) (b : TBid) => [encTBid a, encTBid b]) x.1 x.2) v_).map nz → u_ = v_ := by
  intro u_ v_ h
  obtain ⟨⟨a_Who, a_Cents, a_Seal⟩, ⟨b_Who, b_Cents, b_Seal⟩⟩ := u_
  obtain ⟨⟨a_Who', a_Cents', a_Seal'⟩, ⟨b_Who', b_Cents', b_Seal'⟩⟩ := v_
  simp [nz_lit, nz1_lit, nz_agg, nz_sl, nz1_sl, encTBid] at h
  first | (simp [h]; done) | (obtain ⟨⟩ := h; simp_all; done) | simp_all
@[simp] theorem c74_fn (a_Who : Int) (a_Cents : Int) (a_Seal : Int) (b_Who : Int) (b_Cents : Int) (b_Seal : Int) : c74.fn [.agg [.lit (.int .i64 a_Who), .lit (.int .i64 a_Cents), .lit (.int .i64 a_Seal)], .agg [.lit (.int .i64 b_Who), .lit (.int .i64 b_Cents), .lit (.int .i64 b_Seal)]] [] = some ((fun (a : TBid) (b : TBid) => True) ⟨a_Who, a_Cents, a_Seal⟩ ⟨b_Who, b_Cents, b_Seal⟩, (fun (a : TBid) (b : TBid) => (dB (decide (a = b)) : D)) ⟨a_Who, a_Cents, a_Seal⟩ ⟨b_Who, b_Cents, b_Seal⟩, (fun (a : TBid) (b : TBid) => []) ⟨a_Who, a_Cents, a_Seal⟩ ⟨b_Who, b_Cents, b_Seal⟩) :=
  mkCon_fn (fun x y h _ => c74_inj x y h) ((⟨a_Who, a_Cents, a_Seal⟩, ⟨b_Who, b_Cents, b_Seal⟩) : TBid × TBid) (by simp [nz, nz1, ML_nil, encTBid]) rfl
theorem c74_pc (a : TBid) (b : TBid) : PCo Try.prog 74 [encTBid a, encTBid b] (Tab.of []) (dB (decide (a = b))) (Tab.of []) := by
  obtain ⟨a_Who, a_Cents, a_Seal⟩ := a
  obtain ⟨b_Who, b_Cents, b_Seal⟩ := b
  refine pco_of_run [] (E := ⟨[], []⟩) (m := false) (base := 0) Env.ok_nil G_ok mix 300 6 Try.func74 (by kernel_rfl) rfl (by kernel_rfl) (by kernel_rfl) rfl ?_
  simp [Try.f74]
  all_goals first | omega | (rw [Bool.eq_iff_iff]; simp; omega) | grind
theorem c74_ok : c74.ok Try.prog := mkCon_ok fun ⟨a, b⟩ hpre => c74_pc a b
/-- loop.example/g03007/laws.szBidS -/
noncomputable def c42 : Con := mkCon 42 false (α := (List TBid) × Int) (fun x => (fun (l : List TBid) (left : Int) => [encLTBid l, dI left]) x.1 x.2) (fun _ => []) (fun x => (fun (l : List TBid) (left : Int) => l.length ≤ maxLen ∧ 0 ≤ left ∧ left ≤ 1099511627776) x.1 x.2) (fun x => (fun (l : List TBid) (left : Int) => (dI (if left - l.length < 0 then -1 else left - l.length) : D)) x.1 x.2) (fun x => (fun (l : List TBid) (left : Int) => []) x.1 x.2)
@[simp] theorem c42_f : c42.f = 42 := rfl
@[simp] theorem c42_own : c42.own = false := rfl
theorem c42_inj : ∀ u_ v_ : (List TBid) × Int, ((fun x => (fun (l : List TBid) (left : Int) => [encLTBid l, dI left]) x.1 x.2) u_).map nz = ((fun x => (fun (l : List TBid) (left : Int) => [encLTBid l, dI left]) x.1 x.2) v_).map nz → u_ = v_ := by
  intro u_ v_ h
  obtain ⟨l, left⟩ := u_
  obtain ⟨l', left'⟩ := v_
  simp [nz_lit, nz1_lit, nz_agg, nz_sl, nz1_sl, encLTBid] at h
  first | (simp [h]; done) | (obtain ⟨⟩ := h; simp_all; done) | simp_all
@[simp] theorem c42_fn (l : List TBid) (left : Int) : c42.fn [.sl false 3 yTBid (ML encTBid l), .lit (.int .i64 left)] [] = some ((fun (l : List TBid) (left : Int) => l.length ≤ maxLen ∧ 0 ≤ left ∧ left ≤ 1099511627776) l left, (fun (l : List TBid) (left : Int) => (dI (if left - l.length < 0 then -1 else left - l.length) : D)) l left, (fun (l : List TBid) (left : Int) => []) l left) :=
  mkCon_fn (fun x y h _ => c42_inj x y h) ((l, left) : (List TBid) × Int) (by simp [nz, nz1, ML_nil, encLTBid]) rfl
@[simp] theorem c42_fn1 (s_l : Nat) (z_l : D) (left : Int) : c42.fn [.sl false s_l z_l [], .lit (.int .i64 left)] [] = some ((fun (l : List TBid) (left : Int) => l.length ≤ maxLen ∧ 0 ≤ left ∧ left ≤ 1099511627776) [] left, (fun (l : List TBid) (left : Int) => (dI (if left - l.length < 0 then -1 else left - l.length) : D)) [] left, (fun (l : List TBid) (left : Int) => []) [] left) :=
  mkCon_fn (fun x y h _ => c42_inj x y h) (([], left) : (List TBid) × Int) (by simp [nz, nz1, ML_nil, encLTBid]) rfl
theorem c42_pc (l : List TBid) (left : Int) (hpre : l.length ≤ maxLen ∧ 0 ≤ left ∧ left ≤ 1099511627776) : PCo Try.prog 42 [encLTBid l, dI left] (Tab.of []) (dI (if left - l.length < 0 then -1 else left - l.length)) (Tab.of []) := by
  refine pco_of_run [] (E := ⟨[], []⟩) (m := false) (base := 0) Env.ok_nil G_ok mix 300 6 Try.func42 (by kernel_rfl) rfl (by kernel_rfl) (by kernel_rfl) rfl ?_
  simp [Try.f42]
  simp [maxLen] at hpre
  all_goals omega
theorem c42_ok : c42.ok Try.prog := mkCon_ok fun ⟨l, left⟩ hpre => c42_pc l left hpre
/-- loop.example/g03007/laws.toBidS -/
noncomputable def c44 : Con := mkCon 44 false (α := (List TBid)) (fun x => (fun (l : List TBid) => [encLTBid l]) x) (fun _ => []) (fun x => (fun (l : List TBid) => l.length ≤ 1099511627776) x) (fun x => (fun (l : List TBid) => (encLTBid l : D)) x) (fun x => (fun (l : List TBid) => []) x)
@[simp] theorem c44_f : c44.f = 44 := rfl
@[simp] theorem c44_own : c44.own = false := rfl
theorem c44_inj : ∀ u_ v_ : (List TBid), ((fun x => (fun (l : List TBid) => [encLTBid l]) x) u_).map nz = ((fun x => (fun (l : List TBid) => [encLTBid l]) x) v_).map nz → u_ = v_ := by
  intro u_ v_ h
  obtain l := u_
  obtain l' := v_
  simp [nz_lit, nz1_lit, nz_agg, nz_sl, nz1_sl, encLTBid] at h
  first | (simp [h]; done) | (obtain ⟨⟩ := h; simp_all; done) | simp_all
@[simp] theorem c44_fn (l : List TBid) : c44.fn [.sl false 3 yTBid (ML encTBid l)] [] = some ((fun (l : List TBid) => l.length ≤ 1099511627776) l, (fun (l : List TBid) => (encLTBid l : D)) l, (fun (l : List TBid) => []) l) :=
  mkCon_fn (fun x y h _ => c44_inj x y h) (l : (List TBid)) (by simp [nz, nz1, ML_nil, encLTBid]) rfl
@[simp] theorem c44_fn1 (s_l : Nat) (z_l : D) : c44.fn [.sl false s_l z_l []] [] = some ((fun (l : List TBid) => l.length ≤ 1099511627776) [], (fun (l : List TBid) => (encLTBid l : D)) [], (fun (l : List TBid) => []) []) :=
  mkCon_fn (fun x y h _ => c44_inj x y h) ([] : (List TBid)) (by simp [nz, nz1, ML_nil, encLTBid]) rfl
theorem c44_pc (l : List TBid) (hpre : l.length ≤ 1099511627776) : PCo Try.prog 44 [encLTBid l] (Tab.of []) (encLTBid l) (Tab.of []) := by
  refine pco_of_run [] (E := ⟨[c40], []⟩) (m := false) (base := 0) (Env.ok_cons c40_ok Env.ok_nil) G_ok mix 300 6 Try.func44 (by kernel_rfl) rfl (by kernel_rfl) (by kernel_rfl) rfl ?_
  simp [Try.f44]
  refine ⟨by omega, ?_⟩
  refine loop_inv (fun p : Nat => p ≤ l.length) (fun p => [(0, encLTBid l), (3, .own (0, 1) 3 0 l.length), (4, dI p)]) (fun p => [((0, 1), .arr false 3 yTBid (ML encTBid (l.take p ++ List.replicate (l.length - p) ⟨0, 0, 0⟩)))]) 2 (fun p => l.length - p) 0 100 (by simp) (by simp) (by first | (simp; done) | (simp; simp only [ML, List.map_replicate]; rfl)) ?_
  intro p hp
  simp
  refine ⟨fun hlt => ⟨by omega, by omega, Again.mk (p + 1) (by omega) (by simp [fill_step hlt]) (by first | omega | (simp; omega))⟩, fun hge => ?_⟩
  have : p = l.length := by omega
  subst this
  simp
theorem c44_ok : c44.ok Try.prog := mkCon_ok fun l hpre => c44_pc l hpre
/-- loop.example/g03007/laws.eqBidS -/
noncomputable def c46 : Con := mkCon 46 false (α := (List TBid) × (List TBid)) (fun x => (fun (a : List TBid) (b : List TBid) => [encLTBid a, encLTBid b]) x.1 x.2) (fun _ => []) (fun x => (fun (a : List TBid) (b : List TBid) => a.length ≤ 1099511627776 ∧ b.length ≤ 1099511627776) x.1 x.2) (fun x => (fun (a : List TBid) (b : List TBid) => (dB (decide (a = b)) : D)) x.1 x.2) (fun x => (fun (a : List TBid) (b : List TBid) => []) x.1 x.2)
@[simp] theorem c46_f : c46.f = 46 := rfl
@[simp] theorem c46_own : c46.own = false := rfl
theorem c46_inj : ∀ u_ v_ : (List TBid) × (List TBid), ((fun x => (fun (a : List TBid) (b : List TBid) => [encLTBid a, encLTBid b]) x.1 x.2) u_).map nz = ((fun x => (fun (a : List TBid) (b : List TBid) => [encLTBid a, encLTBid b]) x.1 x.2) v_).map nz → u_ = v_ := by
  intro u_ v_ h
  obtain ⟨a, b⟩ := u_
  obtain ⟨a', b'⟩ := v_
  simp [nz_lit, nz1_lit, nz_agg, nz_sl, nz1_sl, encLTBid] at h
  first | (simp [h]; done) | (obtain ⟨⟩ := h; simp_all; done) | simp_all
@[simp] theorem c46_fn (a : List TBid) (b : List TBid) : c46.fn [.sl false 3 yTBid (ML encTBid a), .sl false 3 yTBid (ML encTBid b)] [] = some ((fun (a : List TBid) (b : List TBid) => a.length ≤ 1099511627776 ∧ b.length ≤ 1099511627776) a b, (fun (a : List TBid) (b : List TBid) => (dB (decide (a = b)) : D)) a b, (fun (a : List TBid) (b : List TBid) => []) a b) :=
  mkCon_fn (fun x y h _ => c46_inj x y h) ((a, b) : (List TBid) × (List TBid)) (by simp [nz, nz1, ML_nil, encLTBid]) rfl
@[simp] theorem c46_fn1 (s_a : Nat) (z_a : D) (b : List TBid) : c46.fn [.sl false s_a z_a [], .sl false 3 yTBid (ML encTBid b)] [] = some ((fun (a : List TBid) (b : List TBid) => a.length ≤ 1099511627776 ∧ b.length ≤ 1099511627776) [] b, (fun (a : List TBid) (b : List TBid) => (dB (decide (a = b)) : D)) [] b, (fun (a : List TBid) (b : List TBid) => []) [] b) :=
  mkCon_fn (fun x y h _ => c46_inj x y h) (([], b) : (List TBid) × (List TBid)) (by simp [nz, nz1, ML_nil, encLTBid]) rfl
@[simp] theorem c46_fn2 (a : List TBid) (s_b : Nat) (z_b : D) : c46.fn [.sl false 3 yTBid (ML encTBid a), .sl false s_b z_b []] [] = some ((fun (a : List TBid) (b : List TBid) => a.length ≤ 1099511627776 ∧ b.length ≤ 1099511627776) a [], (fun (a : List TBid) (b : List TBid) => (dB (decide (a = b)) : D)) a [], (fun (a : List TBid) (b : List TBid) => []) a []) :=
  mkCon_fn (fun x y h _ => c46_inj x y h) ((a, []) : (List TBid) × (List TBid)) (by simp [nz, nz1, ML_nil, encLTBid]) rfl
@[simp] theorem c46_fn3 (s_a : Nat) (z_a : D) (s_b : Nat) (z_b : D) : c46.fn [.sl false s_a z_a [], .sl false s_b z_b []] [] = some ((fun (a : List TBid) (b : List TBid) => a.length ≤ 1099511627776 ∧ b.length ≤ 1099511627776) [] [], (fun (a : List TBid) (b : List TBid) => (dB (decide (a = b)) : D)) [] [], (fun (a : List TBid) (b : List TBid) => []) [] []) :=
  mkCon_fn (fun x y h _ => c46_inj x y h) (([], []) : (List TBid) × (List TBid)) (by simp [nz, nz1, ML_nil, encLTBid]) rfl
theorem c46_pc (a : List TBid) (b : List TBid) (hpre : a.length ≤ 1099511627776 ∧ b.length ≤ 1099511627776) : PCo Try.prog 46 [encLTBid a, encLTBid b] (Tab.of []) (dB (decide (a = b))) (Tab.of []) := by
  refine pco_of_run [] (E := ⟨[c74], []⟩) (m := false) (base := 0) (Env.ok_cons c74_ok Env.ok_nil) G_ok mix 300 6 Try.func46 (by kernel_rfl) rfl (by kernel_rfl) (by kernel_rfl) rfl ?_
  simp [Try.f46]
  obtain ⟨pre1, pre2⟩ := hpre
  refine ⟨fun h => ?_, fun h => by intro e; subst e; exact absurd rfl h⟩
  refine loop_inv (fun p : Nat => p ≤ a.length ∧ a.take p = b.take p) (fun p => [(0, encLTBid a), (1, encLTBid b), (5, dI p)]) (fun _ => []) 1 (fun p => a.length - p) 0 100 (by simp) (by simp) (by simp) ?_
  intro p ⟨hp, hi⟩
  simp
  refine ⟨fun hlt => ⟨by omega, fun h2 => ⟨by omega, Again.mk (p + 1) ⟨by omega, take_eq_step hi (by omega) (by omega) h2⟩ (by simp) (by first | omega | (simp; omega))⟩, fun h2 => by intro e; subst e; exact absurd rfl h2⟩, fun hge => ?_⟩
  exact take_eq_full hi (by omega) (by omega)
theorem c46_ok : c46.ok Try.prog := mkCon_ok fun ⟨a, b⟩ hpre => c46_pc a b hpre
def mIsOpened (x : TBid) (salt : Int) : Bool := mIsBid x && decide (mSealBid salt x.Who x.Cents = x.Seal)
/-- loop.example/g03007/spec.IsOpened -/
noncomputable def c39 : Con := mkCon 39 false (α := TBid × Int) (fun x => (fun (x : TBid) (salt : Int) => [encTBid x, dI salt]) x.1 x.2) (fun _ => []) (fun x => (fun (x : TBid) (salt : Int) => True) x.1 x.2) (fun x => (fun (x : TBid) (salt : Int) => (dB (mIsOpened x salt) : D)) x.1 x.2) (fun x => (fun (x : TBid) (salt : Int) => []) x.1 x.2)
@[simp] theorem c39_f : c39.f = 39 := rfl
@[simp] theorem c39_own : c39.own = false := rfl
theorem c39_inj : ∀ u_ v_ : TBid × Int, ((fun x => (fun (x : TBid) (salt : Int) => [encTBid x, dI salt]) x.1 x.2) u_).map nz = ((fun x => (fun (x : TBid) (salt : Int) => [encTBid x, dI salt]) x.1 x.2) v_).map nz → u_ = v_ := by
  intro u_ v_ h
  obtain ⟨⟨x_Who, x_Cents, x_Seal⟩, salt⟩ := u_
  obtain ⟨⟨x_Who', x_Cents', x_Seal'⟩, salt'⟩ := v_
  simp [nz_lit, nz1_lit, nz_agg, nz_sl, nz1_sl, encTBid] at h
  first | (simp [h]; done) | (obtain ⟨⟩ := h; simp_all; done) | simp_all
@[simp] theorem c39_fn (x_Who : Int) (x_Cents : Int) (x_Seal : Int) (salt : Int) : c39.fn [.agg [.lit (.int .i64 x_Who), .lit (.int .i64 x_Cents), .lit (.int .i64 x_Seal)], .lit (.int .i64 salt)] [] = some ((fun (x : TBid) (salt : Int) => True) ⟨x_Who, x_Cents, x_Seal⟩ salt, (fun (x : TBid) (salt : Int) => (dB (mIsOpened x salt) : D)) ⟨x_Who, x_Cents, x_Seal⟩ salt, (fun (x : TBid) (salt : Int) => []) ⟨x_Who, x_Cents, x_Seal⟩ salt) :=
  mkCon_fn (fun x y h _ => c39_inj x y h) ((⟨x_Who, x_Cents, x_Seal⟩, salt) : TBid × Int) (by simp [nz, nz1, ML_nil, encTBid]) rfl
theorem c39_pc (x : TBid) (salt : Int) : PCo Try.prog 39 [encTBid x, dI salt] (Tab.of []) (dB (mIsOpened x salt)) (Tab.of []) := by
  obtain ⟨x_Who, x_Cents, x_Seal⟩ := x
  refine pco_of_run [1] (E := ⟨[c37, c61], []⟩) (m := false) (base := 0) (Env.ok_cons c37_ok (Env.ok_cons c61_ok Env.ok_nil)) G_ok mix 300 6 Try.func39 (by kernel_rfl) rfl (by kernel_rfl) (by kernel_rfl) rfl ?_
  simp [Try.f39]
  simp [mIsOpened, mIsBid]
  first | rfl | omega | (rw [Bool.eq_iff_iff]; simp; done) | (rw [Bool.eq_iff_iff]; simp; omega) | (rw [Bool.eq_iff_iff]; simp; grind) | grind
theorem c39_ok : c39.ok Try.prog := mkCon_ok fun ⟨x, salt⟩ hpre => c39_pc x salt
/-- loop.example/g03007/impl.IsOpened -/
noncomputable def c41 : Con := mkCon 41 false (α := TBid × Int) (fun x => (fun (x : TBid) (salt : Int) => [encTBid x, dI salt]) x.1 x.2) (fun _ => []) (fun x => (fun (x : TBid) (salt : Int) => True) x.1 x.2) (fun x => (fun (x : TBid) (salt : Int) => (dB (mIsOpened x salt) : D)) x.1 x.2) (fun x => (fun (x : TBid) (salt : Int) => []) x.1 x.2)
@[simp] theorem c41_f : c41.f = 41 := rfl
@[simp] theorem c41_own : c41.own = false := rfl
theorem c41_inj : ∀ u_ v_ : TBid × Int, ((fun x => (fun (x : TBid) (salt : Int) => [encTBid x, dI salt]) x.1 x.2) u_).map nz = ((fun x => (fun (x : TBid) (salt : Int) => [encTBid x, dI salt]) x.1 x.2) v_).map nz → u_ = v_ := by
  intro u_ v_ h
  obtain ⟨⟨x_Who, x_Cents, x_Seal⟩, salt⟩ := u_
  obtain ⟨⟨x_Who', x_Cents', x_Seal'⟩, salt'⟩ := v_
  simp [nz_lit, nz1_lit, nz_agg, nz_sl, nz1_sl, encTBid] at h
  first | (simp [h]; done) | (obtain ⟨⟩ := h; simp_all; done) | simp_all
@[simp] theorem c41_fn (x_Who : Int) (x_Cents : Int) (x_Seal : Int) (salt : Int) : c41.fn [.agg [.lit (.int .i64 x_Who), .lit (.int .i64 x_Cents), .lit (.int .i64 x_Seal)], .lit (.int .i64 salt)] [] = some ((fun (x : TBid) (salt : Int) => True) ⟨x_Who, x_Cents, x_Seal⟩ salt, (fun (x : TBid) (salt : Int) => (dB (mIsOpened x salt) : D)) ⟨x_Who, x_Cents, x_Seal⟩ salt, (fun (x : TBid) (salt : Int) => []) ⟨x_Who, x_Cents, x_Seal⟩ salt) :=
  mkCon_fn (fun x y h _ => c41_inj x y h) ((⟨x_Who, x_Cents, x_Seal⟩, salt) : TBid × Int) (by simp [nz, nz1, ML_nil, encTBid]) rfl
theorem c41_pc (x : TBid) (salt : Int) : PCo Try.prog 41 [encTBid x, dI salt] (Tab.of []) (dB (mIsOpened x salt)) (Tab.of []) := by
  obtain ⟨x_Who, x_Cents, x_Seal⟩ := x
  refine pco_of_run [1] (E := ⟨[c38, c73], []⟩) (m := false) (base := 0) (Env.ok_cons c38_ok (Env.ok_cons c73_ok Env.ok_nil)) G_ok mix 300 6 Try.func41 (by kernel_rfl) rfl (by kernel_rfl) (by kernel_rfl) rfl ?_
  simp [Try.f41]
  simp [mIsOpened]
  first | rfl | omega | (rw [Bool.eq_iff_iff]; simp; done) | (rw [Bool.eq_iff_iff]; simp; omega) | (rw [Bool.eq_iff_iff]; simp; grind) | grind
theorem c41_ok : c41.ok Try.prog := mkCon_ok fun ⟨x, salt⟩ hpre => c41_pc x salt
/-- loop.example/g03007/laws.FnExactIsOpened -/
theorem law10 (x : TBid) (wx : wfTBid x) (salt : Int) (wsalt : inR .i64 salt) : PCo Try.prog 10 [encTBid x, dI salt] (Tab.of []) (dB true) (Tab.of []) := by
  obtain ⟨x_Who, x_Cents, x_Seal⟩ := x
  refine pco_of_run [] (E := ⟨[c39, c40, c41], []⟩) (m := false) (base := 0) (Env.ok_cons c39_ok (Env.ok_cons c40_ok (Env.ok_cons c41_ok Env.ok_nil))) G_ok mix 400 6 Try.func10 (by kernel_rfl) rfl (by kernel_rfl) (by kernel_rfl) rfl ?_
  simp [Try.f10]
  repeat' (first | omega | assumption | refine And.intro ?_ ?_ | intro _)
  all_goals first | omega | grind | (split at * <;> omega)
theorem law10_pc (D0 : D) (h0 : Sh G 9 51 D0) (D1 : D) (h1 : Sh G 9 3 D1) : PC Try.prog 10 [D0, D1] (dB true) [] := by
  obtain ⟨x, rfl, wx⟩ := sh51 (n := 7) h0
  obtain ⟨salt, rfl, wsalt⟩ := sh3 (n := 8) h1
  exact law10 x wx salt wsalt
def dup : List Int → Bool
  | [] => false
  | x :: r => decide (x ∈ r) || dup r
theorem dup_snoc (x : Int) : ∀ (l : List Int), dup (l ++ [x]) = (dup l || decide (x ∈ l))
  | [] => rfl
  | y :: r => by
    simp only [List.cons_append, dup, dup_snoc x r, List.mem_append, List.mem_cons, List.mem_nil_iff, or_false, Bool.decide_or]
    by_cases h : x = y
    · subst h; cases decide (x ∈ r) <;> cases dup r <;> simp
    · have h2 : ¬ y = x := fun e => h e.symm
      simp only [h, h2, decide_false, Bool.or_false, Bool.false_or]
      cases decide (y ∈ r) <;> cases decide (x ∈ r) <;> cases dup r <;> rfl
theorem dup_app (b : List Int) : ∀ (a : List Int), dup a = true → dup (a ++ b) = true
  | [], h => by simp [dup] at h
  | x :: a, h => by
    simp only [dup, Bool.or_eq_true, decide_eq_true_eq] at h
    simp only [List.cons_append, dup, Bool.or_eq_true, decide_eq_true_eq, List.mem_append]
    rcases h with h | h
    · exact .inl (.inl h)
    · exact .inr (dup_app b a h)
def whos (l : List TBid) : List Int := l.map TBid.Who
theorem whos_at {l : List TBid} {p : Nat} (h : p < l.length) : whos (l.take (p + 1)) = whos (l.take p) ++ [(l[p]?.getD default).Who] := by
  rw [take_at (d := default) h]; simp [whos]
theorem whos_take {l : List TBid} {p : Nat} (h : dup (whos (l.take p)) = true) : dup (whos l) = true := by
  have := dup_app (whos (l.drop p)) _ h
  rwa [whos, whos, ← List.map_append, List.take_append_drop] at this
def allBid (l : List TBid) : Bool := l.all mIsBid
def mAreBids (l : List TBid) : Bool := decide (l.length ≤ 20) && allBid l && !dup (whos l)
theorem all_take_at {α : Type} {w : α → Bool} {l : List α} {k : Nat} {d : α} (h : k < l.length) : (l.take (k + 1)).all w = ((l.take k).all w && w (l[k]?.getD d)) := by
  rw [take_at (d := d) h]; simp
theorem all_get {α : Type} {w : α → Bool} {l : List α} {k : Nat} {d : α} (h : k < l.length) (hw : w (l[k]?.getD d) = false) : l.all w = false := by
  rw [← Bool.not_eq_true, List.all_eq_true]
  intro h2
  rw [h2 _ (getD_mem h)] at hw
  simp at hw
def memW (v : Int) (l : List TBid) : Bool := decide (v ∈ whos l)
theorem memW_at {v : Int} {l : List TBid} {k : Nat} (h : k < l.length) : memW v (l.take (k + 1)) = (memW v (l.take k) || decide ((l[k]?.getD default).Who = v)) := by
  rw [memW, whos_at h, memW]
  rw [Bool.eq_iff_iff]; simp; grind
theorem memW_mono {v : Int} {l : List TBid} {a b : Nat} (h : a ≤ b) (ha : memW v (l.take a) = true) : memW v (l.take b) = true := by
  simp only [memW, decide_eq_true_eq, whos, List.mem_map] at ha ⊢
  obtain ⟨x, hx, hw⟩ := ha
  refine ⟨x, ?_, hw⟩
  have e : l.take a = (l.take b).take a := by rw [List.take_take, Nat.min_eq_left h]
  rw [e] at hx
  exact List.mem_of_mem_take hx
/-- loop.example/g03007/spec.AreBids -/
noncomputable def c43 : Con := mkCon 43 false (α := (List TBid)) (fun x => (fun (l : List TBid) => [encLTBid l]) x) (fun _ => []) (fun x => (fun (l : List TBid) => l.length ≤ 1099511627776) x) (fun x => (fun (l : List TBid) => (dB (mAreBids l) : D)) x) (fun x => (fun (l : List TBid) => []) x)
@[simp] theorem c43_f : c43.f = 43 := rfl
@[simp] theorem c43_own : c43.own = false := rfl
theorem c43_inj : ∀ u_ v_ : (List TBid), ((fun x => (fun (l : List TBid) => [encLTBid l]) x) u_).map nz = ((fun x => (fun (l : List TBid) => [encLTBid l]) x) v_).map nz → u_ = v_ := by
  intro u_ v_ h
  obtain l := u_
  obtain l' := v_
  simp [nz_lit, nz1_lit, nz_agg, nz_sl, nz1_sl, encLTBid] at h
  first | (simp [h]; done) | (obtain ⟨⟩ := h; simp_all; done) | simp_all
@[simp] theorem c43_fn (l : List TBid) : c43.fn [.sl false 3 yTBid (ML encTBid l)] [] = some ((fun (l : List TBid) => l.length ≤ 1099511627776) l, (fun (l : List TBid) => (dB (mAreBids l) : D)) l, (fun (l : List TBid) => []) l) :=
  mkCon_fn (fun x y h _ => c43_inj x y h) (l : (List TBid)) (by simp [nz, nz1, ML_nil, encLTBid]) rfl
@[simp] theorem c43_fn1 (s_l : Nat) (z_l : D) : c43.fn [.sl false s_l z_l []] [] = some ((fun (l : List TBid) => l.length ≤ 1099511627776) [], (fun (l : List TBid) => (dB (mAreBids l) : D)) [], (fun (l : List TBid) => []) []) :=
  mkCon_fn (fun x y h _ => c43_inj x y h) ([] : (List TBid)) (by simp [nz, nz1, ML_nil, encLTBid]) rfl
theorem c43_pc (l : List TBid) (hpre : l.length ≤ 1099511627776) : PCo Try.prog 43 [encLTBid l] (Tab.of []) (dB (mAreBids l)) (Tab.of []) := by
  refine pco_of_run [] (E := ⟨[c61], []⟩) (m := false) (base := 0) (Env.ok_cons c61_ok Env.ok_nil) G_ok mix 300 6 Try.func43 (by kernel_rfl) rfl (by kernel_rfl) (by kernel_rfl) rfl ?_
  simp [Try.f43]
  refine loop_inv (fun p : Nat => p ≤ l.length ∧ allBid (l.take p) = true ∧ dup (whos (l.take p)) = false) (fun p => [(0, encLTBid l), (3, dI p)]) (fun _ => []) 1 (fun p => l.length - p) 0 400 (by simp) (by simp [dup, whos, allBid]) (by simp) ?_
  intro p ⟨hp, hi, ht⟩
  simp
  refine ⟨fun hlt => ?_, fun hge => ?_⟩
  · have ha : allBid (l.take (p + 1)) = (allBid (l.take p) && mIsBid (l[p]?.getD default)) := all_take_at (w := mIsBid) (d := default) hlt
    have hx := whos_at hlt
    refine ⟨by repeat' (first | omega | refine And.intro ?_ ?_ | intro _), fun h => ?_, fun h1 h2 => ?_⟩
    · have : allBid l = false := all_get (w := mIsBid) (d := default) hlt (by grind [mIsBid])
      rw [mAreBids, this]; simp
    refine loop_inv (fun k : Nat => k ≤ p ∧ memW (l[p]?.getD default).Who (l.take k) = false) (fun k => [(0, encLTBid l), (3, dI p), (4, dI k)]) (fun _ => []) 1 (fun k => p - k) 0 400 (by simp) (by simp [memW, whos]) (by simp) ?_
    intro k ⟨hk, hk2⟩
    simp
    refine ⟨fun hkp => ?_, fun hkp => ?_⟩
    · have hkl : k < l.length := by omega
      have hks := memW_at (v := (l[p]?.getD default).Who) hkl
      refine ⟨by omega, fun h => ?_, fun h => ⟨by omega, Again.mk (k + 1) ⟨by omega, by rw [hks, hk2]; simp [h]⟩ (by simp) (by first | omega | (simp; omega))⟩⟩
      have h6 : memW (l[p]?.getD default).Who (l.take p) = true := memW_mono (show k + 1 ≤ p by omega) (by rw [hks]; simp [h])
      have h7 : dup (whos (l.take (p + 1))) = true := by rw [hx, dup_snoc]; simp only [memW] at h6; rw [h6]; simp
      rw [mAreBids, whos_take h7]; simp
    · have hkp2 : k = p := by omega
      subst hkp2
      simp only [memW] at hk2
      refine ⟨by omega, Again.mk (k + 1) ⟨by omega, (show allBid (l.take (k + 1)) = true by rw [ha, hi]; simp [mIsBid, h1, h2]), by rw [hx, dup_snoc, ht, hk2]; rfl⟩ (by simp) (by first | omega | (simp; omega))⟩
  · rw [List.take_of_length_le hge] at *; rw [mAreBids, hi, ht]; simp; omega
theorem c43_ok : c43.ok Try.prog := mkCon_ok fun l hpre => c43_pc l hpre
theorem posK_none {v : Int} {ks : List Int} (h : v ∉ ks) : posK [v] (keysI ks) = none := by
  have := posK_keys (v := v) (ks := ks)
  simp only [h, decide_false] at this
  cases hq : posK [v] (keysI ks) <;> simp [hq] at this ⊢
theorem insI_new {ks : List Int} {v : Int} (h : v ∉ ks) : insI ks v = ks ++ [v] := by simp [insI, h]
theorem lookK_keysE {v : Int} {f : Int → D} : ∀ {ks : List Int}, lookK (keysI ks) (ks.map f) [v] = if v ∈ ks then some (f v) else none
  | [] => rfl
  | k :: ks => by
    have := lookK_keysE (v := v) (f := f) (ks := ks)
    simp only [lookK, keysI, List.map_cons, posK] at this ⊢
    by_cases h : v = k
    · subst h; simp
    · simp only [List.cons.injEq, h, and_true, if_false, List.mem_cons, false_or]
      rw [← this]
      cases posK [v] (List.map (fun k => [k]) ks) <;> simp
theorem updK_keysE {ks : List Int} {v : Int} {f : Int → D} (h : v ∉ ks) : updK (keysI ks) (ks.map f) [v] (f v) = (insI ks v).map f := by
  simp [updK, posK_none h, insI, h]
/-- loop.example/g03007/impl.AreBids -/
noncomputable def c45 : Con := mkCon 45 false (α := (List TBid)) (fun x => (fun (l : List TBid) => [encLTBid l]) x) (fun _ => []) (fun x => (fun (l : List TBid) => l.length ≤ 1099511627776) x) (fun x => (fun (l : List TBid) => (dB (mAreBids l) : D)) x) (fun x => (fun (l : List TBid) => []) x)
@[simp] theorem c45_f : c45.f = 45 := rfl
@[simp] theorem c45_own : c45.own = false := rfl
theorem c45_inj : ∀ u_ v_ : (List TBid), ((fun x => (fun (l : List TBid) => [encLTBid l]) x) u_).map nz = ((fun x => (fun (l : List TBid) => [encLTBid l]) x) v_).map nz → u_ = v_ := by
  intro u_ v_ h
  obtain l := u_
  obtain l' := v_
  simp [nz_lit, nz1_lit, nz_agg, nz_sl, nz1_sl, encLTBid] at h
  first | (simp [h]; done) | (obtain ⟨⟩ := h; simp_all; done) | simp_all
@[simp] theorem c45_fn (l : List TBid) : c45.fn [.sl false 3 yTBid (ML encTBid l)] [] = some ((fun (l : List TBid) => l.length ≤ 1099511627776) l, (fun (l : List TBid) => (dB (mAreBids l) : D)) l, (fun (l : List TBid) => []) l) :=
  mkCon_fn (fun x y h _ => c45_inj x y h) (l : (List TBid)) (by simp [nz, nz1, ML_nil, encLTBid]) rfl
@[simp] theorem c45_fn1 (s_l : Nat) (z_l : D) : c45.fn [.sl false s_l z_l []] [] = some ((fun (l : List TBid) => l.length ≤ 1099511627776) [], (fun (l : List TBid) => (dB (mAreBids l) : D)) [], (fun (l : List TBid) => []) []) :=
  mkCon_fn (fun x y h _ => c45_inj x y h) ([] : (List TBid)) (by simp [nz, nz1, ML_nil, encLTBid]) rfl
theorem c45_pc (l : List TBid) (hpre : l.length ≤ 1099511627776) : PCo Try.prog 45 [encLTBid l] (Tab.of []) (dB (mAreBids l)) (Tab.of []) := by
  refine pco_of_run [] (E := ⟨[c73], []⟩) (m := false) (base := 0) (Env.ok_cons c73_ok Env.ok_nil) G_ok mix 300 6 Try.func45 (by kernel_rfl) rfl (by kernel_rfl) (by kernel_rfl) rfl ?_
  simp [Try.f45]
  refine ⟨fun h => by simp [mAreBids]; omega, fun h20 => ?_⟩
  refine loop_inv (fun p : Nat => p ≤ l.length ∧ allBid (l.take p) = true ∧ dup (whos (l.take p)) = false) (fun p => [(3, .mp (0, 1)), (10, encLTBid l), (11, dI l.length), (12, dI p)]) (fun p => [((0, 1), .map 0 (keysI (whos (l.take p))) (dB false) ((whos (l.take p)).map fun _ => dB true))]) 2 (fun p => l.length - p) 0 400 (by simp) (by simp [dup, whos, allBid]) (by simp [whos, keysI]) ?_
  intro p ⟨hp, hi, ht⟩
  simp
  refine ⟨fun hlt => ?_, fun hge => ?_⟩
  · have ha : allBid (l.take (p + 1)) = (allBid (l.take p) && mIsBid (l[p]?.getD default)) := all_take_at (w := mIsBid) (d := default) hlt
    have hx := whos_at hlt
    by_cases hm : (l[p]?.getD default).Who ∈ whos (l.take p)
    · simp [lookK_keysE, hm]
      have h7 : dup (whos (l.take (p + 1))) = true := by rw [hx, dup_snoc]; simp [hm]
      exact ⟨hlt, by rw [mAreBids, whos_take h7]; simp⟩
    · simp [lookK_keysE, hm]
      refine ⟨hlt, fun h => ?_, fun h => ⟨by omega, Again.mk (p + 1) ⟨by omega, by rw [ha, hi, h]; rfl, by rw [hx, dup_snoc, ht]; simp [hm]⟩ (by simp [hx, ← insI_new hm]; exact updK_keysE (f := fun _ => dB true) hm) (by first | omega | (simp; omega))⟩⟩
      have : allBid l = false := all_get (w := mIsBid) (d := default) hlt h
      rw [mAreBids, this]; simp
  · rw [List.take_of_length_le hge] at *; rw [mAreBids, hi, ht]; simp; omega
theorem c45_ok : c45.ok Try.prog := mkCon_ok fun l hpre => c45_pc l hpre
/-- loop.example/g03007/laws.FnExactAreBids -/
theorem law11 (l : List TBid) (wl : wfLTBid l) : PCo Try.prog 11 [encLTBid l] (Tab.of []) (dB true) (Tab.of []) := by
  refine pco_of_run [] (E := ⟨[c42, c43, c44, c45, c46], []⟩) (m := false) (base := 0) (Env.ok_cons c42_ok (Env.ok_cons c43_ok (Env.ok_cons c44_ok (Env.ok_cons c45_ok (Env.ok_cons c46_ok Env.ok_nil))))) G_ok mix 400 6 Try.func11 (by kernel_rfl) rfl (by kernel_rfl) (by kernel_rfl) rfl ?_
  simp [Try.f11]
  have h_l : l.length ≤ maxLen := wl.1
  repeat' (first | omega | assumption | refine And.intro ?_ ?_ | intro _)
  all_goals first | omega | grind | (split at * <;> omega)
theorem law11_pc (D0 : D) (h0 : Sh G 9 56 D0) : PC Try.prog 11 [D0] (dB true) [] := by
  obtain ⟨l, rfl, wl⟩ := sh56 (n := 6) h0
  exact law11 l wl

end Go.Proofs.Ytljamnanhmpdnaa
