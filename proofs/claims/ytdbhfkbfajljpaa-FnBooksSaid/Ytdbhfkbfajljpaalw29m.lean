/- Contracts of the functions that the laws run. -/
import Derived.Test.YtdbhfkbfajljpaaEngB
import Derived.Test.YtdbhfkbfajljpaaEngB
import Derived.Test.YtdbhfkbfajljpaaEngB
import Derived.Test.Ytdbhfkbfajljpaaasc9
import Derived.Test.Ytdbhfkbfajljpaacut
import Derived.Test.Ytdbhfkbfajljpaach29w
import Derived.Test.Ytdbhfkbfajljpaach29m
import Derived.Test.Ytdbhfkbfajljpaach20x
import Derived.Test.YtdbhfkbfajljpaaEngB
namespace Go.Proofs.Ytdbhfkbfajljpaa
open Go Go.Eng
set_option linter.unusedSimpArgs false
set_option linter.unusedVariables false
set_option maxRecDepth 10000
set_option maxHeartbeats 1000000
def accL (l : List TEntry) : List Int := l.flatMap fun x => [x.From, x.To]
theorem accL_at {l : List TEntry} {p : Nat} (h : p < l.length) : accL (l.take (p + 1)) = accL (l.take p) ++ [(l[p]?.getD default).From, (l[p]?.getD default).To] := by
  rw [take_at (d := default) h]; simp [accL]
theorem accL_len : ∀ (l : List TEntry), (accL l).length = 2 * l.length
  | [] => rfl
  | x :: l => by have := accL_len l; simp only [accL, List.flatMap_cons, List.length_append, List.length_cons] at this ⊢; simp at this ⊢; omega
/-- loop.example/g03007/impl.AccountsOf -/
noncomputable def c22 : Con := mkCon 22 false (α := (List TEntry)) (fun x => (fun (l : List TEntry) => [encLTEntry l]) x) (fun _ => []) (fun x => (fun (l : List TEntry) => l.length ≤ 1048576) x) (fun x => (fun (l : List TEntry) => (.own (0, 1) 1 0 (mOnce (accL l) []).length : D)) x) (fun x => (fun (l : List TEntry) => [((0, 1), .arr false 1 (dI 0) (ML dI (mOnceT (accL l) [])))]) x)
@[simp] theorem c22_f : c22.f = 22 := rfl
@[simp] theorem c22_own : c22.own = false := rfl
theorem c22_inj : ∀ u_ v_ : (List TEntry), ((fun x => (fun (l : List TEntry) => [encLTEntry l]) x) u_).map nz = ((fun x => (fun (l : List TEntry) => [encLTEntry l]) x) v_).map nz → u_ = v_ := by
  intro u_ v_ h
  obtain l := u_
  obtain l' := v_
  simp [nz_lit, nz1_lit, nz_agg, nz_sl, nz1_sl, encLTEntry] at h
  first | (simp [h]; done) | (obtain ⟨⟩ := h; simp_all; done) | simp_all
@[simp] theorem c22_fn (l : List TEntry) : c22.fn [.sl false 4 yTEntry (ML encTEntry l)] [] = some ((fun (l : List TEntry) => l.length ≤ 1048576) l, (fun (l : List TEntry) => (.own (0, 1) 1 0 (mOnce (accL l) []).length : D)) l, (fun (l : List TEntry) => [((0, 1), .arr false 1 (dI 0) (ML dI (mOnceT (accL l) [])))]) l) :=
  mkCon_fn (fun x y h _ => c22_inj x y h) (l : (List TEntry)) (by simp [nz, nz1, ML_nil, encLTEntry]) rfl
@[simp] theorem c22_fn1 (s_l : Nat) (z_l : D) : c22.fn [.sl false s_l z_l []] [] = some ((fun (l : List TEntry) => l.length ≤ 1048576) [], (fun (l : List TEntry) => (.own (0, 1) 1 0 (mOnce (accL l) []).length : D)) [], (fun (l : List TEntry) => [((0, 1), .arr false 1 (dI 0) (ML dI (mOnceT (accL l) [])))]) []) :=
  mkCon_fn (fun x y h _ => c22_inj x y h) ([] : (List TEntry)) (by simp [nz, nz1, ML_nil, encLTEntry]) rfl
theorem c22_pc (l : List TEntry) (hpre : l.length ≤ 1048576) : PCo Try.prog 22 [encLTEntry l] (Tab.of []) (.own (0, 1) 1 0 (mOnce (accL l) []).length) (Tab.of [((0, 1), .arr false 1 (dI 0) (ML dI (mOnceT (accL l) [])))]) := by
  refine pco_of_run [] (E := ⟨[c45, c46], [], []⟩) (m := false) (base := 0) (Env.ok_cons c45_ok (Env.ok_cons c46_ok Env.ok_nil)) G_ok mix 300 6 Try.func22 (by kernel_rfl) rfl (by kernel_rfl) (by kernel_rfl) rfl ?_
  simp [Try.f22]
  refine loop_inv (fun p : Nat => p ≤ l.length) (fun p => [(3, .own (0, 1) 1 0 (accL (l.take p)).length), (8, encLTEntry l), (9, dI l.length), (10, dI p)]) (fun p => [((0, 1), .arr false 1 (dI 0) (ML dI (accL (l.take p))))]) 2 (fun p => l.length - p) 0 400 (by simp) (by simp) (by simp [accL]) ?_
  intro p hp
  have hl := accL_len (l.take p)
  have hl2 : (l.take p).length ≤ l.length := by simp; omega
  simp
  refine ⟨fun hlt => ?_, fun hge => ?_⟩
  · have hs := accL_at hlt
    refine ⟨hlt, by omega, by omega, ?_⟩
    exact Again.mk (p + 1) (by omega) (by simp [hs] <;> simp [ML]) (by first | omega | (simp; omega))
  · rw [List.take_of_length_le hge] at *
    exact ⟨by omega, rfl, rfl⟩
theorem c22_ok : c22.ok Try.prog := mkCon_ok fun l hpre => c22_pc l hpre
theorem acc_pc (l : List TEntry) (hpre : l.length ≤ 1048576) : PCo Try.prog 22 [encLTEntry l] (Tab.of []) (.own (0, 1) 1 0 (mOnce (accL l) []).length) (Tab.of [((0, 1), .arr false 1 (dI 0) (ML dI (mOnceT (accL l) [])))]) := c22_pc l hpre
/-- loop.example/g03007/impl.AccountsOf -/
noncomputable def c22f : Con := mkCon 22 false (α := (List TEntry)) (fun x => (fun (l : List TEntry) => [encLTEntry l]) x) (fun _ => []) (fun x => (fun (l : List TEntry) => l.length ≤ 1048576) x) (fun x => (fun (l : List TEntry) => (encLI (mOnce (accL l) []) : D)) x) (fun x => (fun (l : List TEntry) => []) x)
@[simp] theorem c22f_f : c22f.f = 22 := rfl
@[simp] theorem c22f_own : c22f.own = false := rfl
theorem c22f_inj : ∀ u_ v_ : (List TEntry), ((fun x => (fun (l : List TEntry) => [encLTEntry l]) x) u_).map nz = ((fun x => (fun (l : List TEntry) => [encLTEntry l]) x) v_).map nz → u_ = v_ := by
  intro u_ v_ h
  obtain l := u_
  obtain l' := v_
  simp [nz_lit, nz1_lit, nz_agg, nz_sl, nz1_sl, encLTEntry] at h
  first | (simp [h]; done) | (obtain ⟨⟩ := h; simp_all; done) | simp_all
@[simp] theorem c22f_fn (l : List TEntry) : c22f.fn [.sl false 4 yTEntry (ML encTEntry l)] [] = some ((fun (l : List TEntry) => l.length ≤ 1048576) l, (fun (l : List TEntry) => (encLI (mOnce (accL l) []) : D)) l, (fun (l : List TEntry) => []) l) :=
  mkCon_fn (fun x y h _ => c22f_inj x y h) (l : (List TEntry)) (by simp [nz, nz1, ML_nil, encLTEntry]) rfl
@[simp] theorem c22f_fn1 (s_l : Nat) (z_l : D) : c22f.fn [.sl false s_l z_l []] [] = some ((fun (l : List TEntry) => l.length ≤ 1048576) [], (fun (l : List TEntry) => (encLI (mOnce (accL l) []) : D)) [], (fun (l : List TEntry) => []) []) :=
  mkCon_fn (fun x y h _ => c22f_inj x y h) ([] : (List TEntry)) (by simp [nz, nz1, ML_nil, encLTEntry]) rfl
theorem c22f_pc (l : List TEntry) (hpre : l.length ≤ 1048576) : PCo Try.prog 22 [encLTEntry l] (Tab.of []) (encLI (mOnce (accL l) [])) (Tab.of []) := by
  have h := acc_pc l hpre
  rw [mOnceT, ← ML_app] at h
  exact pco_frz1 (by simp) (pco_cut h)
theorem c22f_ok : c22f.ok Try.prog := mkCon_ok fun l hpre => c22f_pc l hpre
/-- loop.example/g03007/impl.AddEntry -/
noncomputable def c29f : Con := mkCon 29 false (α := (List TEntry) × TEntry) (fun x => (fun (l : List TEntry) (x : TEntry) => [encLTEntry l, encTEntry x]) x.1 x.2) (fun _ => []) (fun x => (fun (l : List TEntry) (x : TEntry) => l.length ≤ 1073741823) x.1 x.2) (fun x => (fun (l : List TEntry) (x : TEntry) => (.tup [.sl false 4 yTEntry (ML encTEntry (mAddEntry l x)), dB (mAreEntries (l ++ [x]))] : D)) x.1 x.2) (fun x => (fun (l : List TEntry) (x : TEntry) => []) x.1 x.2)
@[simp] theorem c29f_f : c29f.f = 29 := rfl
@[simp] theorem c29f_own : c29f.own = false := rfl
theorem c29f_inj : ∀ u_ v_ : (List TEntry) × TEntry, ((fun x => (fun (l : List TEntry) (x : TEntry) => [encLTEntry l, encTEntry x]) x.1 x.2) u_).map nz = ((fun x => (fun (l : List TEntry) (x : TEntry) => [encLTEntry l, encTEntry x]) x.1 x.2) v_).map nz → u_ = v_ := by
  intro u_ v_ h
  obtain ⟨l, ⟨x_From, x_To, x_Cents, x_At⟩⟩ := u_
  obtain ⟨l', ⟨x_From', x_To', x_Cents', x_At'⟩⟩ := v_
  simp [nz_lit, nz1_lit, nz_agg, nz_sl, nz1_sl, encLTEntry, encTEntry] at h
  first | (simp [h]; done) | (obtain ⟨⟩ := h; simp_all; done) | simp_all
@[simp] theorem c29f_fn (l : List TEntry) (x_From : Int) (x_To : Int) (x_Cents : Int) (x_At : Int) : c29f.fn [.sl false 4 yTEntry (ML encTEntry l), .agg [.lit (.int .i64 x_From), .lit (.int .i64 x_To), .lit (.int .i64 x_Cents), .lit (.int .i64 x_At)]] [] = some ((fun (l : List TEntry) (x : TEntry) => l.length ≤ 1073741823) l ⟨x_From, x_To, x_Cents, x_At⟩, (fun (l : List TEntry) (x : TEntry) => (.tup [.sl false 4 yTEntry (ML encTEntry (mAddEntry l x)), dB (mAreEntries (l ++ [x]))] : D)) l ⟨x_From, x_To, x_Cents, x_At⟩, (fun (l : List TEntry) (x : TEntry) => []) l ⟨x_From, x_To, x_Cents, x_At⟩) :=
  mkCon_fn (fun x y h _ => c29f_inj x y h) ((l, ⟨x_From, x_To, x_Cents, x_At⟩) : (List TEntry) × TEntry) (by simp [nz, nz1, ML_nil, encLTEntry, encTEntry]) rfl
@[simp] theorem c29f_fn1 (s_l : Nat) (z_l : D) (x_From : Int) (x_To : Int) (x_Cents : Int) (x_At : Int) : c29f.fn [.sl false s_l z_l [], .agg [.lit (.int .i64 x_From), .lit (.int .i64 x_To), .lit (.int .i64 x_Cents), .lit (.int .i64 x_At)]] [] = some ((fun (l : List TEntry) (x : TEntry) => l.length ≤ 1073741823) [] ⟨x_From, x_To, x_Cents, x_At⟩, (fun (l : List TEntry) (x : TEntry) => (.tup [.sl false 4 yTEntry (ML encTEntry (mAddEntry l x)), dB (mAreEntries (l ++ [x]))] : D)) [] ⟨x_From, x_To, x_Cents, x_At⟩, (fun (l : List TEntry) (x : TEntry) => []) [] ⟨x_From, x_To, x_Cents, x_At⟩) :=
  mkCon_fn (fun x y h _ => c29f_inj x y h) (([], ⟨x_From, x_To, x_Cents, x_At⟩) : (List TEntry) × TEntry) (by simp [nz, nz1, ML_nil, encLTEntry, encTEntry]) rfl
theorem c29f_pc (l : List TEntry) (x : TEntry) (hpre : l.length ≤ 1073741823) : PCo Try.prog 29 [encLTEntry l, encTEntry x] (Tab.of []) (.tup [.sl false 4 yTEntry (ML encTEntry (mAddEntry l x)), dB (mAreEntries (l ++ [x]))]) (Tab.of []) := by
  exact pco_frz2 (by simp) (c29_pc l x hpre)
theorem c29f_ok : c29f.ok Try.prog := mkCon_ok fun ⟨l, x⟩ hpre => c29f_pc l x hpre
/-- loop.example/g03007/impl.PayShares -/
noncomputable def c21f : Con := mkCon 21 false (α := (List TEntry) × Int × (List TShare) × Int) (fun x => (fun (l : List TEntry) (payer : Int) (s : List TShare) (at_ : Int) => [encLTEntry l, dI payer, encLTShare s, dI at_]) x.1 x.2.1 x.2.2.1 x.2.2.2) (fun _ => []) (fun x => (fun (l : List TEntry) (payer : Int) (s : List TShare) (at_ : Int) => l.length ≤ 268435456 ∧ s.length ≤ 268435456) x.1 x.2.1 x.2.2.1 x.2.2.2) (fun x => (fun (l : List TEntry) (payer : Int) (s : List TShare) (at_ : Int) => (.tup [.sl false 4 yTEntry (ML encTEntry (mPay l payer s at_)), dB (payAll payer at_ l s).isSome] : D)) x.1 x.2.1 x.2.2.1 x.2.2.2) (fun x => (fun (l : List TEntry) (payer : Int) (s : List TShare) (at_ : Int) => []) x.1 x.2.1 x.2.2.1 x.2.2.2)
@[simp] theorem c21f_f : c21f.f = 21 := rfl
@[simp] theorem c21f_own : c21f.own = false := rfl
theorem c21f_inj : ∀ u_ v_ : (List TEntry) × Int × (List TShare) × Int, ((fun x => (fun (l : List TEntry) (payer : Int) (s : List TShare) (at_ : Int) => [encLTEntry l, dI payer, encLTShare s, dI at_]) x.1 x.2.1 x.2.2.1 x.2.2.2) u_).map nz = ((fun x => (fun (l : List TEntry) (payer : Int) (s : List TShare) (at_ : Int) => [encLTEntry l, dI payer, encLTShare s, dI at_]) x.1 x.2.1 x.2.2.1 x.2.2.2) v_).map nz → u_ = v_ := by
  intro u_ v_ h
  obtain ⟨l, payer, s, at_⟩ := u_
  obtain ⟨l', payer', s', at_'⟩ := v_
  simp [nz_lit, nz1_lit, nz_agg, nz_sl, nz1_sl, encLTEntry, encLTShare] at h
  first | (simp [h]; done) | (obtain ⟨⟩ := h; simp_all; done) | simp_all
@[simp] theorem c21f_fn (l : List TEntry) (payer : Int) (s : List TShare) (at_ : Int) : c21f.fn [.sl false 4 yTEntry (ML encTEntry l), .lit (.int .i64 payer), .sl false 2 yTShare (ML encTShare s), .lit (.int .i64 at_)] [] = some ((fun (l : List TEntry) (payer : Int) (s : List TShare) (at_ : Int) => l.length ≤ 268435456 ∧ s.length ≤ 268435456) l payer s at_, (fun (l : List TEntry) (payer : Int) (s : List TShare) (at_ : Int) => (.tup [.sl false 4 yTEntry (ML encTEntry (mPay l payer s at_)), dB (payAll payer at_ l s).isSome] : D)) l payer s at_, (fun (l : List TEntry) (payer : Int) (s : List TShare) (at_ : Int) => []) l payer s at_) :=
  mkCon_fn (fun x y h _ => c21f_inj x y h) ((l, payer, s, at_) : (List TEntry) × Int × (List TShare) × Int) (by simp [nz, nz1, ML_nil, encLTEntry, encLTShare]) rfl
@[simp] theorem c21f_fn1 (s_l : Nat) (z_l : D) (payer : Int) (s : List TShare) (at_ : Int) : c21f.fn [.sl false s_l z_l [], .lit (.int .i64 payer), .sl false 2 yTShare (ML encTShare s), .lit (.int .i64 at_)] [] = some ((fun (l : List TEntry) (payer : Int) (s : List TShare) (at_ : Int) => l.length ≤ 268435456 ∧ s.length ≤ 268435456) [] payer s at_, (fun (l : List TEntry) (payer : Int) (s : List TShare) (at_ : Int) => (.tup [.sl false 4 yTEntry (ML encTEntry (mPay l payer s at_)), dB (payAll payer at_ l s).isSome] : D)) [] payer s at_, (fun (l : List TEntry) (payer : Int) (s : List TShare) (at_ : Int) => []) [] payer s at_) :=
  mkCon_fn (fun x y h _ => c21f_inj x y h) (([], payer, s, at_) : (List TEntry) × Int × (List TShare) × Int) (by simp [nz, nz1, ML_nil, encLTEntry, encLTShare]) rfl
@[simp] theorem c21f_fn2 (l : List TEntry) (payer : Int) (s_s : Nat) (z_s : D) (at_ : Int) : c21f.fn [.sl false 4 yTEntry (ML encTEntry l), .lit (.int .i64 payer), .sl false s_s z_s [], .lit (.int .i64 at_)] [] = some ((fun (l : List TEntry) (payer : Int) (s : List TShare) (at_ : Int) => l.length ≤ 268435456 ∧ s.length ≤ 268435456) l payer [] at_, (fun (l : List TEntry) (payer : Int) (s : List TShare) (at_ : Int) => (.tup [.sl false 4 yTEntry (ML encTEntry (mPay l payer s at_)), dB (payAll payer at_ l s).isSome] : D)) l payer [] at_, (fun (l : List TEntry) (payer : Int) (s : List TShare) (at_ : Int) => []) l payer [] at_) :=
  mkCon_fn (fun x y h _ => c21f_inj x y h) ((l, payer, [], at_) : (List TEntry) × Int × (List TShare) × Int) (by simp [nz, nz1, ML_nil, encLTEntry, encLTShare]) rfl
@[simp] theorem c21f_fn3 (s_l : Nat) (z_l : D) (payer : Int) (s_s : Nat) (z_s : D) (at_ : Int) : c21f.fn [.sl false s_l z_l [], .lit (.int .i64 payer), .sl false s_s z_s [], .lit (.int .i64 at_)] [] = some ((fun (l : List TEntry) (payer : Int) (s : List TShare) (at_ : Int) => l.length ≤ 268435456 ∧ s.length ≤ 268435456) [] payer [] at_, (fun (l : List TEntry) (payer : Int) (s : List TShare) (at_ : Int) => (.tup [.sl false 4 yTEntry (ML encTEntry (mPay l payer s at_)), dB (payAll payer at_ l s).isSome] : D)) [] payer [] at_, (fun (l : List TEntry) (payer : Int) (s : List TShare) (at_ : Int) => []) [] payer [] at_) :=
  mkCon_fn (fun x y h _ => c21f_inj x y h) (([], payer, [], at_) : (List TEntry) × Int × (List TShare) × Int) (by simp [nz, nz1, ML_nil, encLTEntry, encLTShare]) rfl
theorem c21f_pc (l : List TEntry) (payer : Int) (s : List TShare) (at_ : Int) (hpre : l.length ≤ 268435456 ∧ s.length ≤ 268435456) : PCo Try.prog 21 [encLTEntry l, dI payer, encLTShare s, dI at_] (Tab.of []) (.tup [.sl false 4 yTEntry (ML encTEntry (mPay l payer s at_)), dB (payAll payer at_ l s).isSome]) (Tab.of []) := by
  exact pco_frz2 (by simp) (c21_pc l payer s at_ hpre)
theorem c21f_ok : c21f.ok Try.prog := mkCon_ok fun ⟨l, payer, s, at_⟩ hpre => c21f_pc l payer s at_ hpre
def accSum (g : Int → Int) : List Int → Int
  | [] => 0
  | b :: r => g b + accSum g r
theorem accSum_app (g : Int → Int) : ∀ a b : List Int, accSum g (a ++ b) = accSum g a + accSum g b
  | [], b => by simp [accSum]
  | x :: a, b => by rw [List.cons_append, accSum, accSum, accSum_app g a b]; omega
theorem accSum_at {g : Int → Int} {a : List Int} {p : Nat} (h : p < a.length) : accSum g (a.take (p + 1)) = accSum g (a.take p) + g (a[p]?.getD 0) := by
  rw [take_at (d := 0) h, accSum_app]; simp [accSum]
theorem accSum_add (g h : Int → Int) : ∀ a : List Int, accSum (fun b => g b + h b) a = accSum g a + accSum h a
  | [] => rfl
  | x :: a => by rw [accSum, accSum, accSum, accSum_add g h a]; omega
theorem accSum_zero {g : Int → Int} : ∀ {a : List Int}, (∀ b ∈ a, g b = 0) → accSum g a = 0
  | [], _ => rfl
  | x :: a, h => by rw [accSum, h x (by simp), accSum_zero fun b hb => h b (by simp [hb])]; rfl
theorem accSum_bd {g : Int → Int} {M : Int} (hg : ∀ b, -M ≤ g b ∧ g b ≤ M) : ∀ a : List Int, -(M * a.length) ≤ accSum g a ∧ accSum g a ≤ M * a.length
  | [] => by simp [accSum]
  | x :: a => by
    have h1 := accSum_bd hg a
    have h2 := hg x
    have e : M * ((x :: a).length : Int) = M * a.length + M := by simp [Int.mul_add]
    rw [e, accSum]; omega
theorem bal_one {x : TEntry} (hne : ¬ x.From = x.To) : ∀ {a : List Int}, a.Pairwise (· < ·) → accSum (fun b => balOf b x) a = (if x.To ∈ a then x.Cents else 0) - (if x.From ∈ a then x.Cents else 0)
  | [], _ => by simp [accSum]
  | b :: r, h => by
    rw [List.pairwise_cons] at h
    have ih := bal_one hne h.2
    have hb : b ∉ r := fun hm => by have := h.1 b hm; omega
    rw [accSum, ih, balOf]
    by_cases h1 : x.To = b
    · have h2 : ¬ x.From = b := by omega
      simp [h1, h2, hb]; split <;> omega
    · by_cases h2 : x.From = b
      · simp [h1, h2, hb]; split <;> omega
      · simp [h1, h2]
theorem bal_all {a : List Int} {l : List TEntry} (ha : a.Pairwise (· < ·)) (hl : ∀ x ∈ l, mIsEntry x = true ∧ x.From ∈ a ∧ x.To ∈ a) : ∀ p, p ≤ l.length → accSum (fun b => sumBy (balOf b) (l.take p)) a = 0
  | 0, _ => accSum_zero fun b _ => by simp [sumBy]
  | p + 1, hp => by
    have ih := bal_all ha hl p (by omega)
    obtain ⟨h1, h2, h3⟩ := hl _ (getD_mem (d := default) (show p < l.length by omega))
    have e : (fun b => sumBy (balOf b) (l.take (p + 1))) = fun b => sumBy (balOf b) (l.take p) + balOf b (l[p]?.getD default) := by
      funext b; exact sumBy_at (by omega)
    rw [e, accSum_add, ih, bal_one (entry_of h1).1 ha, if_pos h3, if_pos h2]; omega
theorem once_asc (l : List Int) : (mOnce l []).Pairwise (· < ·) := by
  rw [← once_fold, List.append_nil]; exact (foldP l [] List.Pairwise.nil).1
theorem once_mem (l : List Int) (w : Int) : w ∈ mOnce l [] ↔ w ∈ l := by
  rw [← once_fold, List.append_nil, (foldP l [] List.Pairwise.nil).2.1 w]; simp
theorem acc_mem {l : List TEntry} {x : TEntry} (h : x ∈ l) : x.From ∈ accL l ∧ x.To ∈ accL l := by
  simp only [accL, List.mem_flatMap]
  exact ⟨⟨x, h, by simp⟩, ⟨x, h, by simp⟩⟩
theorem bal_zero (l : List TEntry) : accSum (fun b => mSumOf (balOf b) l) (mOnce (accL l) []) = 0 := by
  cases h : mAreEntries l with
  | false => exact accSum_zero fun b _ => mSumOf_no h
  | true =>
    have he := entries_of h
    have := bal_all (once_asc (accL l)) (l := l) (fun x hx => ⟨he.2 x hx, (once_mem _ _).2 (acc_mem hx).1, (once_mem _ _).2 (acc_mem hx).2⟩) l.length (Nat.le_refl _)
    rw [List.take_length] at this
    rw [← this]; congr 1; funext b; exact mSumOf_yes h
theorem mSum_bd {g : TEntry → Int} {l : List TEntry} (hg : ∀ x, mIsEntry x = true → -10000000 ≤ g x ∧ g x ≤ 10000000) : -1000000000 ≤ mSumOf g l ∧ mSumOf g l ≤ 1000000000 := by
  cases h : mAreEntries l with
  | false => rw [mSumOf_no h]; omega
  | true =>
    have he := entries_of h
    have := sumBy_bd (fun x hx => hg x (he.2 x hx)) l.length (Nat.le_refl _)
    rw [List.take_length] at this
    rw [mSumOf_yes h]; omega
theorem sumBy_snoc (g : TEntry → Int) (l : List TEntry) (x : TEntry) : sumBy g (l ++ [x]) = sumBy g l + g x := by simp [sumBy]
theorem mTot_go (s : List TShare) : ∀ n : Int, s.foldl (fun n s => n + min (max s.Cents 0) 10000000) n = n + mTotal s := by
  induction s with
  | nil => intro n; simp [mTotal]
  | cons y s ih =>
    intro n
    have h0 := ih (0 + min (max y.Cents 0) 10000000)
    have e : mTotal (y :: s) = s.foldl (fun n s => n + min (max s.Cents 0) 10000000) (0 + min (max y.Cents 0) 10000000) := rfl
    rw [List.foldl_cons, ih, e, h0]; omega
theorem mTot_cons (y : TShare) (s : List TShare) : mTotal (y :: s) = min (max y.Cents 0) 10000000 + mTotal s := by
  have := mTot_go s (0 + min (max y.Cents 0) 10000000)
  have e : mTotal (y :: s) = s.foldl (fun n s => n + min (max s.Cents 0) 10000000) (0 + min (max y.Cents 0) 10000000) := rfl
  rw [e, this]; omega
theorem pay_facts {payer at_ : Int} : ∀ {s : List TShare} {acc r : List TEntry}, payAll payer at_ acc s = some r → mAreEntries acc = true → mAreEntries r = true ∧ sumBy (paidOf payer) r = sumBy (paidOf payer) acc + mTotal s
  | [], acc, r, h, ha => by
    simp only [payAll, Option.some.injEq] at h
    subst h; exact ⟨ha, by simp [mTotal]⟩
  | y :: s, acc, r, h, ha => by
    rw [payAll] at h; rw [mTot_cons]
    split at h
    · rename_i hz
      have := pay_facts h ha
      exact ⟨this.1, by rw [this.2, hz]; omega⟩
    · split at h
      · rename_i hz he
        have := pay_facts h he
        have hx := (entries_of he).2 ⟨payer, y.Who, y.Cents, at_⟩ (by simp)
        have hc := entry_of hx
        simp only at hc
        have e : paidOf payer ⟨payer, y.Who, y.Cents, at_⟩ = y.Cents := by simp [paidOf]
        exact ⟨this.1, by rw [this.2, sumBy_snoc, e]; omega⟩
      · cases h
theorem upFrom_pre {x : TEntry} : ∀ {l : List TEntry} {e : Int}, upFrom e (l ++ [x]) = true → upFrom e l = true
  | [], _, _ => rfl
  | y :: r, e, h => by
    simp only [List.cons_append, upFrom, Bool.and_eq_true] at h ⊢
    exact ⟨h.1, upFrom_pre h.2⟩
theorem are_pre {l : List TEntry} {x : TEntry} (h : mAreEntries (l ++ [x]) = true) : mAreEntries l = true := by
  simp only [mAreEntries, Bool.and_eq_true, decide_eq_true_eq, List.length_append, List.length_cons, List.length_nil] at h ⊢
  exact ⟨by omega, upFrom_pre h.2⟩
theorem add_bal {l : List TEntry} {x : TEntry} (h : mAreEntries (l ++ [x]) = true) : mSumOf (balOf x.To) (mAddEntry l x) = mSumOf (balOf x.To) l + x.Cents ∧ mSumOf (balOf x.From) (mAddEntry l x) = mSumOf (balOf x.From) l - x.Cents ∧ 1 ≤ x.Cents ∧ x.Cents ≤ 10000000 := by
  have hx := (entries_of h).2 x (by simp)
  have hc := entry_of hx
  have hl := are_pre h
  rw [mAddEntry_yes h, mSumOf_yes h, mSumOf_yes h, mSumOf_yes hl, mSumOf_yes hl, sumBy_snoc, sumBy_snoc]
  have e1 : balOf x.To x = x.Cents := by simp [balOf]
  have e2 : balOf x.From x = -x.Cents := by
    have : ¬ x.To = x.From := fun e => hc.1 e.symm
    simp [balOf, this]
  rw [e1, e2]; omega
theorem pay_no {l : List TEntry} {payer at_ : Int} {s : List TShare} (h : payAll payer at_ l s = none) : mPay l payer s at_ = l := by simp [mPay, h]
theorem pay_yes {l r : List TEntry} {payer at_ : Int} {s : List TShare} (h : payAll payer at_ l s = some r) : mPay l payer s at_ = r := by simp [mPay, h]

end Go.Proofs.Ytdbhfkbfajljpaa
