/- Contracts of the functions that the laws run. -/
import Derived.Test.Ytpnfkjbnhholfaach03
import Derived.Test.YtpnfkjbnhholfaaEngB
namespace Go.Proofs.Ytpnfkjbnhholfaa
open Go Go.Eng
set_option linter.unusedSimpArgs false
set_option linter.unusedVariables false
set_option maxRecDepth 10000
set_option maxHeartbeats 1000000
def mSealBid (a b c : Int) : Int := mHash [a, b, c]
@[simp] theorem c197_three (a b c : Int) : c197.fn [.sl false 1 (.lit (.int .i64 0)) [dI a, dI b, dI c]] [] = some (3 ≤ 1099511627776, dI (mHash [a, b, c]), []) := c197_fn [a, b, c]
@[simp] theorem c130_three (a b c : Int) : c130.fn [.sl false 1 (.lit (.int .i64 0)) [dI a, dI b, dI c]] [] = some (3 ≤ 1099511627776, dI (mHash [a, b, c]), []) := c130_fn [a, b, c]
/-- loop.example/g03007/spec.SealBid -/
noncomputable def c185 : Con := mkCon 185 false (α := Int × Int × Int) (fun x => (fun (a : Int) (b : Int) (c : Int) => [dI a, dI b, dI c]) x.1 x.2.1 x.2.2) (fun _ => []) (fun x => (fun (a : Int) (b : Int) (c : Int) => True) x.1 x.2.1 x.2.2) (fun x => (fun (a : Int) (b : Int) (c : Int) => (dI (mSealBid a b c) : D)) x.1 x.2.1 x.2.2) (fun x => (fun (a : Int) (b : Int) (c : Int) => []) x.1 x.2.1 x.2.2)
@[simp] theorem c185_f : c185.f = 185 := rfl
@[simp] theorem c185_own : c185.own = false := rfl
theorem c185_inj : ∀ u_ v_ : Int × Int × Int, ((fun x => (fun (a : Int) (b : Int) (c : Int) => [dI a, dI b, dI c]) x.1 x.2.1 x.2.2) u_).map nz = ((fun x => (fun (a : Int) (b : Int) (c : Int) => [dI a, dI b, dI c]) x.1 x.2.1 x.2.2) v_).map nz → u_ = v_ := by
  intro u_ v_ h
  obtain ⟨a, b, c⟩ := u_
  obtain ⟨a', b', c'⟩ := v_
  simp [nz_lit, nz1_lit, nz_agg, nz_sl, nz1_sl] at h
  first | (simp [h]; done) | (obtain ⟨⟩ := h; simp_all; done) | simp_all
@[simp] theorem c185_fn (a : Int) (b : Int) (c : Int) : c185.fn [.lit (.int .i64 a), .lit (.int .i64 b), .lit (.int .i64 c)] [] = some ((fun (a : Int) (b : Int) (c : Int) => True) a b c, (fun (a : Int) (b : Int) (c : Int) => (dI (mSealBid a b c) : D)) a b c, (fun (a : Int) (b : Int) (c : Int) => []) a b c) :=
  mkCon_fn (fun x y h _ => c185_inj x y h) ((a, b, c) : Int × Int × Int) (by simp [nz, nz1, ML_nil]) rfl
theorem c185_pc (a : Int) (b : Int) (c : Int) : PCo Try.prog 185 [dI a, dI b, dI c] (Tab.of []) (dI (mSealBid a b c)) (Tab.of []) := by
  refine pco_of_run [] (E := ⟨[c197], [], []⟩) (m := false) (base := 0) (Env.ok_cons c197_ok Env.ok_nil) G_ok mix 300 6 Try.func185 (by kernel_rfl) rfl (by kernel_rfl) (by kernel_rfl) rfl ?_
  simp [Try.f185]
  rfl
theorem c185_ok : c185.ok Try.prog := mkCon_ok fun ⟨a, b, c⟩ hpre => c185_pc a b c
/-- loop.example/g03007/impl.SealBid -/
noncomputable def c67 : Con := mkCon 67 false (α := Int × Int × Int) (fun x => (fun (a : Int) (b : Int) (c : Int) => [dI a, dI b, dI c]) x.1 x.2.1 x.2.2) (fun _ => []) (fun x => (fun (a : Int) (b : Int) (c : Int) => True) x.1 x.2.1 x.2.2) (fun x => (fun (a : Int) (b : Int) (c : Int) => (dI (mSealBid a b c) : D)) x.1 x.2.1 x.2.2) (fun x => (fun (a : Int) (b : Int) (c : Int) => []) x.1 x.2.1 x.2.2)
@[simp] theorem c67_f : c67.f = 67 := rfl
@[simp] theorem c67_own : c67.own = false := rfl
theorem c67_inj : ∀ u_ v_ : Int × Int × Int, ((fun x => (fun (a : Int) (b : Int) (c : Int) => [dI a, dI b, dI c]) x.1 x.2.1 x.2.2) u_).map nz = ((fun x => (fun (a : Int) (b : Int) (c : Int) => [dI a, dI b, dI c]) x.1 x.2.1 x.2.2) v_).map nz → u_ = v_ := by
  intro u_ v_ h
  obtain ⟨a, b, c⟩ := u_
  obtain ⟨a', b', c'⟩ := v_
  simp [nz_lit, nz1_lit, nz_agg, nz_sl, nz1_sl] at h
  first | (simp [h]; done) | (obtain ⟨⟩ := h; simp_all; done) | simp_all
@[simp] theorem c67_fn (a : Int) (b : Int) (c : Int) : c67.fn [.lit (.int .i64 a), .lit (.int .i64 b), .lit (.int .i64 c)] [] = some ((fun (a : Int) (b : Int) (c : Int) => True) a b c, (fun (a : Int) (b : Int) (c : Int) => (dI (mSealBid a b c) : D)) a b c, (fun (a : Int) (b : Int) (c : Int) => []) a b c) :=
  mkCon_fn (fun x y h _ => c67_inj x y h) ((a, b, c) : Int × Int × Int) (by simp [nz, nz1, ML_nil]) rfl
theorem c67_pc (a : Int) (b : Int) (c : Int) : PCo Try.prog 67 [dI a, dI b, dI c] (Tab.of []) (dI (mSealBid a b c)) (Tab.of []) := by
  refine pco_of_run [] (E := ⟨[c130], [], []⟩) (m := false) (base := 0) (Env.ok_cons c130_ok Env.ok_nil) G_ok mix 300 6 Try.func67 (by kernel_rfl) rfl (by kernel_rfl) (by kernel_rfl) rfl ?_
  simp [Try.f67]
  rfl
theorem c67_ok : c67.ok Try.prog := mkCon_ok fun ⟨a, b, c⟩ hpre => c67_pc a b c
def mIsBid (x : TBid) : Bool := mIn x.Who 1 999 && mIn x.Cents 1 10000000
/-- (loop.example/g03007/impl.Bid).hasWho -/
noncomputable def c182 : Con := mkCon 182 false (α := TBid) (fun x => (fun (x : TBid) => [encTBid x]) x) (fun _ => []) (fun x => (fun (x : TBid) => True) x) (fun x => (fun (x : TBid) => (dB (mIn x.Who 1 999) : D)) x) (fun x => (fun (x : TBid) => []) x)
@[simp] theorem c182_f : c182.f = 182 := rfl
@[simp] theorem c182_own : c182.own = false := rfl
theorem c182_inj : ∀ u_ v_ : TBid, ((fun x => (fun (x : TBid) => [encTBid x]) x) u_).map nz = ((fun x => (fun (x : TBid) => [encTBid x]) x) v_).map nz → u_ = v_ := by
  intro u_ v_ h
  obtain ⟨x_Who, x_Cents, x_Seal⟩ := u_
  obtain ⟨x_Who', x_Cents', x_Seal'⟩ := v_
  simp [nz_lit, nz1_lit, nz_agg, nz_sl, nz1_sl, encTBid] at h
  first | (simp [h]; done) | (obtain ⟨⟩ := h; simp_all; done) | simp_all
@[simp] theorem c182_fn (x_Who : Int) (x_Cents : Int) (x_Seal : Int) : c182.fn [.agg [.lit (.int .i64 x_Who), .lit (.int .i64 x_Cents), .lit (.int .i64 x_Seal)]] [] = some ((fun (x : TBid) => True) ⟨x_Who, x_Cents, x_Seal⟩, (fun (x : TBid) => (dB (mIn x.Who 1 999) : D)) ⟨x_Who, x_Cents, x_Seal⟩, (fun (x : TBid) => []) ⟨x_Who, x_Cents, x_Seal⟩) :=
  mkCon_fn (fun x y h _ => c182_inj x y h) (⟨x_Who, x_Cents, x_Seal⟩ : TBid) (by simp [nz, nz1, ML_nil, encTBid]) rfl
theorem c182_pc (x : TBid) : PCo Try.prog 182 [encTBid x] (Tab.of []) (dB (mIn x.Who 1 999)) (Tab.of []) := by
  obtain ⟨x_Who, x_Cents, x_Seal⟩ := x
  refine pco_of_run [] (E := ⟨[c84], [], []⟩) (m := false) (base := 0) (Env.ok_cons c84_ok Env.ok_nil) G_ok mix 300 6 Try.func182 (by kernel_rfl) rfl (by kernel_rfl) (by kernel_rfl) rfl ?_
  simp [Try.f182]
  all_goals first | omega | (rw [Bool.eq_iff_iff]; simp; omega) | grind
theorem c182_ok : c182.ok Try.prog := mkCon_ok fun x hpre => c182_pc x
/-- (loop.example/g03007/impl.Bid).hasCents -/
noncomputable def c183 : Con := mkCon 183 false (α := TBid) (fun x => (fun (x : TBid) => [encTBid x]) x) (fun _ => []) (fun x => (fun (x : TBid) => True) x) (fun x => (fun (x : TBid) => (dB (mIn x.Cents 1 10000000) : D)) x) (fun x => (fun (x : TBid) => []) x)
@[simp] theorem c183_f : c183.f = 183 := rfl
@[simp] theorem c183_own : c183.own = false := rfl
theorem c183_inj : ∀ u_ v_ : TBid, ((fun x => (fun (x : TBid) => [encTBid x]) x) u_).map nz = ((fun x => (fun (x : TBid) => [encTBid x]) x) v_).map nz → u_ = v_ := by
  intro u_ v_ h
  obtain ⟨x_Who, x_Cents, x_Seal⟩ := u_
  obtain ⟨x_Who', x_Cents', x_Seal'⟩ := v_
  simp [nz_lit, nz1_lit, nz_agg, nz_sl, nz1_sl, encTBid] at h
  first | (simp [h]; done) | (obtain ⟨⟩ := h; simp_all; done) | simp_all
@[simp] theorem c183_fn (x_Who : Int) (x_Cents : Int) (x_Seal : Int) : c183.fn [.agg [.lit (.int .i64 x_Who), .lit (.int .i64 x_Cents), .lit (.int .i64 x_Seal)]] [] = some ((fun (x : TBid) => True) ⟨x_Who, x_Cents, x_Seal⟩, (fun (x : TBid) => (dB (mIn x.Cents 1 10000000) : D)) ⟨x_Who, x_Cents, x_Seal⟩, (fun (x : TBid) => []) ⟨x_Who, x_Cents, x_Seal⟩) :=
  mkCon_fn (fun x y h _ => c183_inj x y h) (⟨x_Who, x_Cents, x_Seal⟩ : TBid) (by simp [nz, nz1, ML_nil, encTBid]) rfl
theorem c183_pc (x : TBid) : PCo Try.prog 183 [encTBid x] (Tab.of []) (dB (mIn x.Cents 1 10000000)) (Tab.of []) := by
  obtain ⟨x_Who, x_Cents, x_Seal⟩ := x
  refine pco_of_run [] (E := ⟨[c84], [], []⟩) (m := false) (base := 0) (Env.ok_cons c84_ok Env.ok_nil) G_ok mix 300 6 Try.func183 (by kernel_rfl) rfl (by kernel_rfl) (by kernel_rfl) rfl ?_
  simp [Try.f183]
  all_goals first | omega | (rw [Bool.eq_iff_iff]; simp; omega) | grind
theorem c183_ok : c183.ok Try.prog := mkCon_ok fun x hpre => c183_pc x
/-- loop.example/g03007/impl.isBid -/
noncomputable def c135 : Con := mkCon 135 false (α := TBid) (fun x => (fun (x : TBid) => [encTBid x]) x) (fun _ => []) (fun x => (fun (x : TBid) => True) x) (fun x => (fun (x : TBid) => (dB (mIsBid x) : D)) x) (fun x => (fun (x : TBid) => []) x)
@[simp] theorem c135_f : c135.f = 135 := rfl
@[simp] theorem c135_own : c135.own = false := rfl
theorem c135_inj : ∀ u_ v_ : TBid, ((fun x => (fun (x : TBid) => [encTBid x]) x) u_).map nz = ((fun x => (fun (x : TBid) => [encTBid x]) x) v_).map nz → u_ = v_ := by
  intro u_ v_ h
  obtain ⟨x_Who, x_Cents, x_Seal⟩ := u_
  obtain ⟨x_Who', x_Cents', x_Seal'⟩ := v_
  simp [nz_lit, nz1_lit, nz_agg, nz_sl, nz1_sl, encTBid] at h
  first | (simp [h]; done) | (obtain ⟨⟩ := h; simp_all; done) | simp_all
@[simp] theorem c135_fn (x_Who : Int) (x_Cents : Int) (x_Seal : Int) : c135.fn [.agg [.lit (.int .i64 x_Who), .lit (.int .i64 x_Cents), .lit (.int .i64 x_Seal)]] [] = some ((fun (x : TBid) => True) ⟨x_Who, x_Cents, x_Seal⟩, (fun (x : TBid) => (dB (mIsBid x) : D)) ⟨x_Who, x_Cents, x_Seal⟩, (fun (x : TBid) => []) ⟨x_Who, x_Cents, x_Seal⟩) :=
  mkCon_fn (fun x y h _ => c135_inj x y h) (⟨x_Who, x_Cents, x_Seal⟩ : TBid) (by simp [nz, nz1, ML_nil, encTBid]) rfl
theorem c135_pc (x : TBid) : PCo Try.prog 135 [encTBid x] (Tab.of []) (dB (mIsBid x)) (Tab.of []) := by
  obtain ⟨x_Who, x_Cents, x_Seal⟩ := x
  refine pco_of_run [] (E := ⟨[c182, c183, c182, c183], [], []⟩) (m := false) (base := 0) (Env.ok_cons c182_ok (Env.ok_cons c183_ok (Env.ok_cons c182_ok (Env.ok_cons c183_ok Env.ok_nil)))) G_ok mix 300 6 Try.func135 (by kernel_rfl) rfl (by kernel_rfl) (by kernel_rfl) rfl ?_
  simp [Try.f135]
  refine loop_unroll 400 ?_
  simp [mIsBid]
  first | done | grind
theorem c135_ok : c135.ok Try.prog := mkCon_ok fun x hpre => c135_pc x
def mIsOpened (x : TBid) (salt : Int) : Bool := mIsBid x && decide (mSealBid salt x.Who x.Cents = x.Seal)
/-- loop.example/g03007/impl.IsOpened -/
noncomputable def c66 : Con := mkCon 66 false (α := TBid × Int) (fun x => (fun (x : TBid) (salt : Int) => [encTBid x, dI salt]) x.1 x.2) (fun _ => []) (fun x => (fun (x : TBid) (salt : Int) => True) x.1 x.2) (fun x => (fun (x : TBid) (salt : Int) => (dB (mIsOpened x salt) : D)) x.1 x.2) (fun x => (fun (x : TBid) (salt : Int) => []) x.1 x.2)
@[simp] theorem c66_f : c66.f = 66 := rfl
@[simp] theorem c66_own : c66.own = false := rfl
theorem c66_inj : ∀ u_ v_ : TBid × Int, ((fun x => (fun (x : TBid) (salt : Int) => [encTBid x, dI salt]) x.1 x.2) u_).map nz = ((fun x => (fun (x : TBid) (salt : Int) => [encTBid x, dI salt]) x.1 x.2) v_).map nz → u_ = v_ := by
  intro u_ v_ h
  obtain ⟨⟨x_Who, x_Cents, x_Seal⟩, salt⟩ := u_
  obtain ⟨⟨x_Who', x_Cents', x_Seal'⟩, salt'⟩ := v_
  simp [nz_lit, nz1_lit, nz_agg, nz_sl, nz1_sl, encTBid] at h
  first | (simp [h]; done) | (obtain ⟨⟩ := h; simp_all; done) | simp_all
@[simp] theorem c66_fn (x_Who : Int) (x_Cents : Int) (x_Seal : Int) (salt : Int) : c66.fn [.agg [.lit (.int .i64 x_Who), .lit (.int .i64 x_Cents), .lit (.int .i64 x_Seal)], .lit (.int .i64 salt)] [] = some ((fun (x : TBid) (salt : Int) => True) ⟨x_Who, x_Cents, x_Seal⟩ salt, (fun (x : TBid) (salt : Int) => (dB (mIsOpened x salt) : D)) ⟨x_Who, x_Cents, x_Seal⟩ salt, (fun (x : TBid) (salt : Int) => []) ⟨x_Who, x_Cents, x_Seal⟩ salt) :=
  mkCon_fn (fun x y h _ => c66_inj x y h) ((⟨x_Who, x_Cents, x_Seal⟩, salt) : TBid × Int) (by simp [nz, nz1, ML_nil, encTBid]) rfl
theorem c66_pc (x : TBid) (salt : Int) : PCo Try.prog 66 [encTBid x, dI salt] (Tab.of []) (dB (mIsOpened x salt)) (Tab.of []) := by
  obtain ⟨x_Who, x_Cents, x_Seal⟩ := x
  refine pco_of_run [1] (E := ⟨[c67, c135], [], []⟩) (m := false) (base := 0) (Env.ok_cons c67_ok (Env.ok_cons c135_ok Env.ok_nil)) G_ok mix 300 6 Try.func66 (by kernel_rfl) rfl (by kernel_rfl) (by kernel_rfl) rfl ?_
  simp [Try.f66]
  simp [mIsOpened]
  first | rfl | omega | (rw [Bool.eq_iff_iff]; simp; done) | (rw [Bool.eq_iff_iff]; simp; omega) | (rw [Bool.eq_iff_iff]; simp; grind) | grind
theorem c66_ok : c66.ok Try.prog := mkCon_ok fun ⟨x, salt⟩ hpre => c66_pc x salt
def dup : List Int → Bool
  | [] => false
  | x :: r => decide (x ∈ r) || dup r
theorem dup_snoc (x : Int) : ∀ (l : List Int), dup (l ++ [x]) = (dup l || decide (x ∈ l))
  | [] => rfl
  | y :: r => by
    simp only [List.cons_append, dup, dup_snoc x r, List.mem_append, List.mem_cons, List.mem_nil_iff, or_false, Bool.decide_or]
    by_cases h : x = y
    · subst h; cases decide (x ∈ r) <;> cases dup r <;> simp
    · have h2 : ¬ y = x := fun e => h e.symm
      simp only [h, h2, decide_false, Bool.or_false, Bool.false_or]
      cases decide (y ∈ r) <;> cases decide (x ∈ r) <;> cases dup r <;> rfl
theorem dup_app (b : List Int) : ∀ (a : List Int), dup a = true → dup (a ++ b) = true
  | [], h => by simp [dup] at h
  | x :: a, h => by
    simp only [dup, Bool.or_eq_true, decide_eq_true_eq] at h
    simp only [List.cons_append, dup, Bool.or_eq_true, decide_eq_true_eq, List.mem_append]
    rcases h with h | h
    · exact .inl (.inl h)
    · exact .inr (dup_app b a h)
def whos (l : List TBid) : List Int := l.map TBid.Who
theorem whos_at {l : List TBid} {p : Nat} (h : p < l.length) : whos (l.take (p + 1)) = whos (l.take p) ++ [(l[p]?.getD default).Who] := by
  rw [take_at (d := default) h]; simp [whos]
theorem whos_take {l : List TBid} {p : Nat} (h : dup (whos (l.take p)) = true) : dup (whos l) = true := by
  have := dup_app (whos (l.drop p)) _ h
  rwa [whos, whos, ← List.map_append, List.take_append_drop] at this
def allBid (l : List TBid) : Bool := l.all mIsBid
def mAreBids (l : List TBid) : Bool := decide (l.length ≤ 20) && allBid l && !dup (whos l)
theorem all_take_at {α : Type} {w : α → Bool} {l : List α} {k : Nat} {d : α} (h : k < l.length) : (l.take (k + 1)).all w = ((l.take k).all w && w (l[k]?.getD d)) := by
  rw [take_at (d := d) h]; simp
theorem all_get {α : Type} {w : α → Bool} {l : List α} {k : Nat} {d : α} (h : k < l.length) (hw : w (l[k]?.getD d) = false) : l.all w = false := by
  rw [← Bool.not_eq_true, List.all_eq_true]
  intro h2
  rw [h2 _ (getD_mem h)] at hw
  simp at hw
def memW (v : Int) (l : List TBid) : Bool := decide (v ∈ whos l)
theorem memW_at {v : Int} {l : List TBid} {k : Nat} (h : k < l.length) : memW v (l.take (k + 1)) = (memW v (l.take k) || decide ((l[k]?.getD default).Who = v)) := by
  rw [memW, whos_at h, memW]
  rw [Bool.eq_iff_iff]; simp; grind
theorem memW_mono {v : Int} {l : List TBid} {a b : Nat} (h : a ≤ b) (ha : memW v (l.take a) = true) : memW v (l.take b) = true := by
  simp only [memW, decide_eq_true_eq, whos, List.mem_map] at ha ⊢
  obtain ⟨x, hx, hw⟩ := ha
  refine ⟨x, ?_, hw⟩
  have e : l.take a = (l.take b).take a := by rw [List.take_take, Nat.min_eq_left h]
  rw [e] at hx
  exact List.mem_of_mem_take hx
/-- loop.example/g03007/spec.AreBids -/
noncomputable def c61 : Con := mkCon 61 false (α := (List TBid)) (fun x => (fun (l : List TBid) => [encLTBid l]) x) (fun _ => []) (fun x => (fun (l : List TBid) => l.length ≤ 1099511627776) x) (fun x => (fun (l : List TBid) => (dB (mAreBids l) : D)) x) (fun x => (fun (l : List TBid) => []) x)
@[simp] theorem c61_f : c61.f = 61 := rfl
@[simp] theorem c61_own : c61.own = false := rfl
theorem c61_inj : ∀ u_ v_ : (List TBid), ((fun x => (fun (l : List TBid) => [encLTBid l]) x) u_).map nz = ((fun x => (fun (l : List TBid) => [encLTBid l]) x) v_).map nz → u_ = v_ := by
  intro u_ v_ h
  obtain l := u_
  obtain l' := v_
  simp [nz_lit, nz1_lit, nz_agg, nz_sl, nz1_sl, encLTBid] at h
  first | (simp [h]; done) | (obtain ⟨⟩ := h; simp_all; done) | simp_all
@[simp] theorem c61_fn (l : List TBid) : c61.fn [.sl false 3 yTBid (ML encTBid l)] [] = some ((fun (l : List TBid) => l.length ≤ 1099511627776) l, (fun (l : List TBid) => (dB (mAreBids l) : D)) l, (fun (l : List TBid) => []) l) :=
  mkCon_fn (fun x y h _ => c61_inj x y h) (l : (List TBid)) (by simp [nz, nz1, ML_nil, encLTBid]) rfl
@[simp] theorem c61_fn1 (s_l : Nat) (z_l : D) : c61.fn [.sl false s_l z_l []] [] = some ((fun (l : List TBid) => l.length ≤ 1099511627776) [], (fun (l : List TBid) => (dB (mAreBids l) : D)) [], (fun (l : List TBid) => []) []) :=
  mkCon_fn (fun x y h _ => c61_inj x y h) ([] : (List TBid)) (by simp [nz, nz1, ML_nil, encLTBid]) rfl
theorem c61_pc (l : List TBid) (hpre : l.length ≤ 1099511627776) : PCo Try.prog 61 [encLTBid l] (Tab.of []) (dB (mAreBids l)) (Tab.of []) := by
  refine pco_of_run [] (E := ⟨[c108], [], []⟩) (m := false) (base := 0) (Env.ok_cons c108_ok Env.ok_nil) G_ok mix 300 6 Try.func61 (by kernel_rfl) rfl (by kernel_rfl) (by kernel_rfl) rfl ?_
  simp [Try.f61]
  refine loop_inv (fun p : Nat => p ≤ l.length ∧ allBid (l.take p) = true ∧ dup (whos (l.take p)) = false) (fun p => [(0, encLTBid l), (3, dI p)]) (fun _ => []) 1 (fun p => l.length - p) 0 400 (by simp) (by simp [dup, whos, allBid]) (by simp) ?_
  intro p ⟨hp, hi, ht⟩
  simp
  refine ⟨fun hlt => ?_, fun hge => ?_⟩
  · have ha : allBid (l.take (p + 1)) = (allBid (l.take p) && mIsBid (l[p]?.getD default)) := all_take_at (w := mIsBid) (d := default) hlt
    have hx := whos_at hlt
    refine ⟨by repeat' (first | omega | refine And.intro ?_ ?_ | intro _), fun h => ?_, fun h1 h2 => ?_⟩
    · have : allBid l = false := all_get (w := mIsBid) (d := default) hlt (by grind [mIsBid])
      rw [mAreBids, this]; simp
    refine loop_inv (fun k : Nat => k ≤ p ∧ memW (l[p]?.getD default).Who (l.take k) = false) (fun k => [(0, encLTBid l), (3, dI p), (4, dI k)]) (fun _ => []) 1 (fun k => p - k) 0 400 (by simp) (by simp [memW, whos]) (by simp) ?_
    intro k ⟨hk, hk2⟩
    simp
    refine ⟨fun hkp => ?_, fun hkp => ?_⟩
    · have hkl : k < l.length := by omega
      have hks := memW_at (v := (l[p]?.getD default).Who) hkl
      refine ⟨by omega, fun h => ?_, fun h => ⟨by omega, Again.mk (k + 1) ⟨by omega, by rw [hks, hk2]; simp [h]⟩ (by simp) (by first | omega | (simp; omega))⟩⟩
      have h6 : memW (l[p]?.getD default).Who (l.take p) = true := memW_mono (show k + 1 ≤ p by omega) (by rw [hks]; simp [h])
      have h7 : dup (whos (l.take (p + 1))) = true := by rw [hx, dup_snoc]; simp only [memW] at h6; rw [h6]; simp
      rw [mAreBids, whos_take h7]; simp
    · have hkp2 : k = p := by omega
      subst hkp2
      simp only [memW] at hk2
      refine ⟨by omega, Again.mk (k + 1) ⟨by omega, (show allBid (l.take (k + 1)) = true by rw [ha, hi]; simp [mIsBid, h1, h2]), by rw [hx, dup_snoc, ht, hk2]; rfl⟩ (by simp) (by first | omega | (simp; omega))⟩
  · rw [List.take_of_length_le hge] at *; rw [mAreBids, hi, ht]; simp; omega
theorem c61_ok : c61.ok Try.prog := mkCon_ok fun l hpre => c61_pc l hpre
theorem posK_none {v : Int} {ks : List Int} (h : v ∉ ks) : posK [v] (keysI ks) = none := by
  have := posK_keys (v := v) (ks := ks)
  simp only [h, decide_false] at this
  cases hq : posK [v] (keysI ks) <;> simp [hq] at this ⊢
theorem insI_new {ks : List Int} {v : Int} (h : v ∉ ks) : insI ks v = ks ++ [v] := by simp [insI, h]
theorem lookK_keysE {v : Int} {f : Int → D} : ∀ {ks : List Int}, lookK (keysI ks) (ks.map f) [v] = if v ∈ ks then some (f v) else none
  | [] => rfl
  | k :: ks => by
    have := lookK_keysE (v := v) (f := f) (ks := ks)
    simp only [lookK, keysI, List.map_cons, posK] at this ⊢
    by_cases h : v = k
    · subst h; simp
    · simp only [List.cons.injEq, h, and_true, if_false, List.mem_cons, false_or]
      rw [← this]
      cases posK [v] (List.map (fun k => [k]) ks) <;> simp
theorem updK_keysE {ks : List Int} {v : Int} {f : Int → D} (h : v ∉ ks) : updK (keysI ks) (ks.map f) [v] (f v) = (insI ks v).map f := by
  simp [updK, posK_none h, insI, h]
/-- loop.example/g03007/impl.AreBids -/
noncomputable def c60 : Con := mkCon 60 false (α := (List TBid)) (fun x => (fun (l : List TBid) => [encLTBid l]) x) (fun _ => []) (fun x => (fun (l : List TBid) => l.length ≤ 1099511627776) x) (fun x => (fun (l : List TBid) => (dB (mAreBids l) : D)) x) (fun x => (fun (l : List TBid) => []) x)
@[simp] theorem c60_f : c60.f = 60 := rfl
@[simp] theorem c60_own : c60.own = false := rfl
theorem c60_inj : ∀ u_ v_ : (List TBid), ((fun x => (fun (l : List TBid) => [encLTBid l]) x) u_).map nz = ((fun x => (fun (l : List TBid) => [encLTBid l]) x) v_).map nz → u_ = v_ := by
  intro u_ v_ h
  obtain l := u_
  obtain l' := v_
  simp [nz_lit, nz1_lit, nz_agg, nz_sl, nz1_sl, encLTBid] at h
  first | (simp [h]; done) | (obtain ⟨⟩ := h; simp_all; done) | simp_all
@[simp] theorem c60_fn (l : List TBid) : c60.fn [.sl false 3 yTBid (ML encTBid l)] [] = some ((fun (l : List TBid) => l.length ≤ 1099511627776) l, (fun (l : List TBid) => (dB (mAreBids l) : D)) l, (fun (l : List TBid) => []) l) :=
  mkCon_fn (fun x y h _ => c60_inj x y h) (l : (List TBid)) (by simp [nz, nz1, ML_nil, encLTBid]) rfl
@[simp] theorem c60_fn1 (s_l : Nat) (z_l : D) : c60.fn [.sl false s_l z_l []] [] = some ((fun (l : List TBid) => l.length ≤ 1099511627776) [], (fun (l : List TBid) => (dB (mAreBids l) : D)) [], (fun (l : List TBid) => []) []) :=
  mkCon_fn (fun x y h _ => c60_inj x y h) ([] : (List TBid)) (by simp [nz, nz1, ML_nil, encLTBid]) rfl
theorem c60_pc (l : List TBid) (hpre : l.length ≤ 1099511627776) : PCo Try.prog 60 [encLTBid l] (Tab.of []) (dB (mAreBids l)) (Tab.of []) := by
  refine pco_of_run [] (E := ⟨[c135], [], []⟩) (m := false) (base := 0) (Env.ok_cons c135_ok Env.ok_nil) G_ok mix 300 6 Try.func60 (by kernel_rfl) rfl (by kernel_rfl) (by kernel_rfl) rfl ?_
  simp [Try.f60]
  refine ⟨fun h => by simp [mAreBids]; omega, fun h20 => ?_⟩
  refine loop_inv (fun p : Nat => p ≤ l.length ∧ allBid (l.take p) = true ∧ dup (whos (l.take p)) = false) (fun p => [(3, .mp (0, 1)), (10, encLTBid l), (11, dI l.length), (12, dI p)]) (fun p => [((0, 1), .map 0 (keysI (whos (l.take p))) (dB false) ((whos (l.take p)).map fun _ => dB true))]) 2 (fun p => l.length - p) 0 400 (by simp) (by simp [dup, whos, allBid]) (by simp [whos, keysI]) ?_
  intro p ⟨hp, hi, ht⟩
  simp
  refine ⟨fun hlt => ?_, fun hge => ?_⟩
  · have ha : allBid (l.take (p + 1)) = (allBid (l.take p) && mIsBid (l[p]?.getD default)) := all_take_at (w := mIsBid) (d := default) hlt
    have hx := whos_at hlt
    by_cases hm : (l[p]?.getD default).Who ∈ whos (l.take p)
    · simp [lookK_keysE, hm]
      have h7 : dup (whos (l.take (p + 1))) = true := by rw [hx, dup_snoc]; simp [hm]
      exact ⟨hlt, by rw [mAreBids, whos_take h7]; simp⟩
    · simp [lookK_keysE, hm]
      refine ⟨hlt, fun h => ?_, fun h => ⟨by omega, Again.mk (p + 1) ⟨by omega, by rw [ha, hi, h]; rfl, by rw [hx, dup_snoc, ht]; simp [hm]⟩ (by simp [hx, ← insI_new hm]; exact updK_keysE (f := fun _ => dB true) hm) (by first | omega | (simp; omega))⟩⟩
      have : allBid l = false := all_get (w := mIsBid) (d := default) hlt h
      rw [mAreBids, this]; simp
  · rw [List.take_of_length_le hge] at *; rw [mAreBids, hi, ht]; simp; omega
theorem c60_ok : c60.ok Try.prog := mkCon_ok fun l hpre => c60_pc l hpre
end Go.Proofs.Ytpnfkjbnhholfaa
