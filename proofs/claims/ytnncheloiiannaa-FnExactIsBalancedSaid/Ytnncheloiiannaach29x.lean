/- Contracts of the functions that the laws run. -/
import Derived.Test.Ytnncheloiiannaach01
import Derived.Test.YtnncheloiiannaaEngB
namespace Go.Proofs.Ytnncheloiiannaa
open Go Go.Eng
set_option linter.unusedSimpArgs false
set_option linter.unusedVariables false
set_option maxRecDepth 10000
set_option maxHeartbeats 1000000
def mIsEntry (x : TEntry) : Bool := mIn x.From 0 999 && mIn x.To 0 999 && !decide (x.From = x.To) && mIn x.Cents 1 10000000 && mIn x.At 0 100000
/-- (loop.example/g03007/impl.Entry).accounts -/
noncomputable def c44 : Con := mkCon 44 false (α := TEntry) (fun x => (fun (x : TEntry) => [encTEntry x]) x) (fun _ => []) (fun x => (fun (x : TEntry) => True) x) (fun x => (fun (x : TEntry) => (.agg [dI x.From, dI x.To] : D)) x) (fun x => (fun (x : TEntry) => []) x)
@[simp] theorem c44_f : c44.f = 44 := rfl
@[simp] theorem c44_own : c44.own = false := rfl
theorem c44_inj : ∀ u_ v_ : TEntry, ((fun x => (fun (x : TEntry) => [encTEntry x]) x) u_).map nz = ((fun x => (fun (x : TEntry) => [encTEntry x]) x) v_).map nz → u_ = v_ := by
  intro u_ v_ h
  obtain ⟨x_From, x_To, x_Cents, x_At⟩ := u_
  obtain ⟨x_From', x_To', x_Cents', x_At'⟩ := v_
  simp [nz_lit, nz1_lit, nz_agg, nz_sl, nz1_sl, encTEntry] at h
  first | (simp [h]; done) | (obtain ⟨⟩ := h; simp_all; done) | simp_all
@[simp] theorem c44_fn (x_From : Int) (x_To : Int) (x_Cents : Int) (x_At : Int) : c44.fn [.agg [.lit (.int .i64 x_From), .lit (.int .i64 x_To), .lit (.int .i64 x_Cents), .lit (.int .i64 x_At)]] [] = some ((fun (x : TEntry) => True) ⟨x_From, x_To, x_Cents, x_At⟩, (fun (x : TEntry) => (.agg [dI x.From, dI x.To] : D)) ⟨x_From, x_To, x_Cents, x_At⟩, (fun (x : TEntry) => []) ⟨x_From, x_To, x_Cents, x_At⟩) :=
  mkCon_fn (fun x y h _ => c44_inj x y h) (⟨x_From, x_To, x_Cents, x_At⟩ : TEntry) (by simp [nz, nz1, ML_nil, encTEntry]) rfl
theorem c44_pc (x : TEntry) : PCo Try.prog 44 [encTEntry x] (Tab.of []) (.agg [dI x.From, dI x.To]) (Tab.of []) := by
  obtain ⟨x_From, x_To, x_Cents, x_At⟩ := x
  refine pco_of_run [] (E := ⟨[], [], []⟩) (m := false) (base := 0) Env.ok_nil G_ok mix 300 6 Try.func44 (by kernel_rfl) rfl (by kernel_rfl) (by kernel_rfl) rfl ?_
  simp [Try.f44]
  all_goals first | omega | (rw [Bool.eq_iff_iff]; simp; omega) | grind
theorem c44_ok : c44.ok Try.prog := mkCon_ok fun x hpre => c44_pc x
/-- loop.example/g03007/impl.isEntry -/
noncomputable def c69 : Con := mkCon 69 false (α := TEntry) (fun x => (fun (x : TEntry) => [encTEntry x]) x) (fun _ => []) (fun x => (fun (x : TEntry) => True) x) (fun x => (fun (x : TEntry) => (dB (mIsEntry x) : D)) x) (fun x => (fun (x : TEntry) => []) x)
@[simp] theorem c69_f : c69.f = 69 := rfl
@[simp] theorem c69_own : c69.own = false := rfl
theorem c69_inj : ∀ u_ v_ : TEntry, ((fun x => (fun (x : TEntry) => [encTEntry x]) x) u_).map nz = ((fun x => (fun (x : TEntry) => [encTEntry x]) x) v_).map nz → u_ = v_ := by
  intro u_ v_ h
  obtain ⟨x_From, x_To, x_Cents, x_At⟩ := u_
  obtain ⟨x_From', x_To', x_Cents', x_At'⟩ := v_
  simp [nz_lit, nz1_lit, nz_agg, nz_sl, nz1_sl, encTEntry] at h
  first | (simp [h]; done) | (obtain ⟨⟩ := h; simp_all; done) | simp_all
@[simp] theorem c69_fn (x_From : Int) (x_To : Int) (x_Cents : Int) (x_At : Int) : c69.fn [.agg [.lit (.int .i64 x_From), .lit (.int .i64 x_To), .lit (.int .i64 x_Cents), .lit (.int .i64 x_At)]] [] = some ((fun (x : TEntry) => True) ⟨x_From, x_To, x_Cents, x_At⟩, (fun (x : TEntry) => (dB (mIsEntry x) : D)) ⟨x_From, x_To, x_Cents, x_At⟩, (fun (x : TEntry) => []) ⟨x_From, x_To, x_Cents, x_At⟩) :=
  mkCon_fn (fun x y h _ => c69_inj x y h) (⟨x_From, x_To, x_Cents, x_At⟩ : TEntry) (by simp [nz, nz1, ML_nil, encTEntry]) rfl
theorem c69_pc (x : TEntry) : PCo Try.prog 69 [encTEntry x] (Tab.of []) (dB (mIsEntry x)) (Tab.of []) := by
  obtain ⟨x_From, x_To, x_Cents, x_At⟩ := x
  refine pco_of_run [] (E := ⟨[c44, c82], [], []⟩) (m := false) (base := 0) (Env.ok_cons c44_ok (Env.ok_cons c82_ok Env.ok_nil)) G_ok mix 300 6 Try.func69 (by kernel_rfl) rfl (by kernel_rfl) (by kernel_rfl) rfl ?_
  simp [Try.f69]
  refine loop_unroll 400 ?_
  simp [mIsEntry]
  first | done | grind
theorem c69_ok : c69.ok Try.prog := mkCon_ok fun x hpre => c69_pc x
def upFrom : Int → List TEntry → Bool
  | _, [] => true
  | e, x :: r => mIsEntry x && decide (e ≤ x.At) && upFrom x.At r
theorem upFrom_at {e : Int} {l : List TEntry} {p : Nat} (h : p < l.length) : upFrom e (l.drop p) = (mIsEntry (l[p]?.getD default) && decide (e ≤ (l[p]?.getD default).At) && upFrom (l[p]?.getD default).At (l.drop (p + 1))) := by
  rw [drop_at (d := default) h, upFrom]
theorem upFrom_end {e : Int} {l : List TEntry} {p : Nat} (h : l.length ≤ p) : upFrom e (l.drop p) = true := by
  rw [List.drop_eq_nil_of_le h, upFrom]
def mAreEntries (l : List TEntry) : Bool := decide (l.length ≤ 100) && upFrom 0 l
/-- loop.example/g03007/impl.AreEntries -/
noncomputable def c62 : Con := mkCon 62 false (α := (List TEntry)) (fun x => (fun (l : List TEntry) => [encLTEntry l]) x) (fun _ => []) (fun x => (fun (l : List TEntry) => l.length ≤ 1099511627776) x) (fun x => (fun (l : List TEntry) => (dB (mAreEntries l) : D)) x) (fun x => (fun (l : List TEntry) => []) x)
@[simp] theorem c62_f : c62.f = 62 := rfl
@[simp] theorem c62_own : c62.own = false := rfl
theorem c62_inj : ∀ u_ v_ : (List TEntry), ((fun x => (fun (l : List TEntry) => [encLTEntry l]) x) u_).map nz = ((fun x => (fun (l : List TEntry) => [encLTEntry l]) x) v_).map nz → u_ = v_ := by
  intro u_ v_ h
  obtain l := u_
  obtain l' := v_
  simp [nz_lit, nz1_lit, nz_agg, nz_sl, nz1_sl, encLTEntry] at h
  first | (simp [h]; done) | (obtain ⟨⟩ := h; simp_all; done) | simp_all
@[simp] theorem c62_fn (l : List TEntry) : c62.fn [.sl false 4 yTEntry (ML encTEntry l)] [] = some ((fun (l : List TEntry) => l.length ≤ 1099511627776) l, (fun (l : List TEntry) => (dB (mAreEntries l) : D)) l, (fun (l : List TEntry) => []) l) :=
  mkCon_fn (fun x y h _ => c62_inj x y h) (l : (List TEntry)) (by simp [nz, nz1, ML_nil, encLTEntry]) rfl
@[simp] theorem c62_fn1 (s_l : Nat) (z_l : D) : c62.fn [.sl false s_l z_l []] [] = some ((fun (l : List TEntry) => l.length ≤ 1099511627776) [], (fun (l : List TEntry) => (dB (mAreEntries l) : D)) [], (fun (l : List TEntry) => []) []) :=
  mkCon_fn (fun x y h _ => c62_inj x y h) ([] : (List TEntry)) (by simp [nz, nz1, ML_nil, encLTEntry]) rfl
theorem c62_pc (l : List TEntry) (hpre : l.length ≤ 1099511627776) : PCo Try.prog 62 [encLTEntry l] (Tab.of []) (dB (mAreEntries l)) (Tab.of []) := by
  refine pco_of_run [] (E := ⟨[c69], [], []⟩) (m := false) (base := 0) (Env.ok_cons c69_ok Env.ok_nil) G_ok mix 300 6 Try.func62 (by kernel_rfl) rfl (by kernel_rfl) (by kernel_rfl) rfl ?_
  simp [Try.f62]
  refine ⟨fun h => by simp [mAreEntries]; omega, fun h0 => ?_⟩
  have h0' : l.length ≤ 100 := by omega
  refine loop_inv (fun p : Nat × Int => p.1 ≤ l.length ∧ mAreEntries l = upFrom p.2 (l.drop p.1)) (fun p => [(3, dI p.2), (9, encLTEntry l), (10, dI l.length), (11, dI p.1)]) (fun _ => []) 1 (fun p => l.length - p.1) (0, 0) 400 (by simp) (by simp [mAreEntries, h0']) (by simp) ?_
  intro ⟨p, e⟩ ⟨hp, hi⟩
  simp at hp hi ⊢
  refine ⟨fun hlt => ?_, fun hge => ?_⟩
  · rw [upFrom_at hlt] at hi
    repeat' (first | omega | refine And.intro ?_ ?_ | intro _)
    all_goals first | exact Again.mk (p + 1, (l[p]?.getD default).At) ⟨by simp; omega, by simp only []; rw [hi]; grind⟩ (by simp) (by first | omega | (simp; omega)) | (rw [hi]; grind)
  · rw [hi, upFrom_end hge]
theorem c62_ok : c62.ok Try.prog := mkCon_ok fun l hpre => c62_pc l hpre
def prevA (l : List TEntry) (p : Nat) : Int := if p = 0 then 0 else (l[p - 1]?.getD default).At
/-- loop.example/g03007/spec.AreEntries -/
noncomputable def c36 : Con := mkCon 36 false (α := (List TEntry)) (fun x => (fun (l : List TEntry) => [encLTEntry l]) x) (fun _ => []) (fun x => (fun (l : List TEntry) => l.length ≤ 1099511627776) x) (fun x => (fun (l : List TEntry) => (dB (mAreEntries l) : D)) x) (fun x => (fun (l : List TEntry) => []) x)
@[simp] theorem c36_f : c36.f = 36 := rfl
@[simp] theorem c36_own : c36.own = false := rfl
theorem c36_inj : ∀ u_ v_ : (List TEntry), ((fun x => (fun (l : List TEntry) => [encLTEntry l]) x) u_).map nz = ((fun x => (fun (l : List TEntry) => [encLTEntry l]) x) v_).map nz → u_ = v_ := by
  intro u_ v_ h
  obtain l := u_
  obtain l' := v_
  simp [nz_lit, nz1_lit, nz_agg, nz_sl, nz1_sl, encLTEntry] at h
  first | (simp [h]; done) | (obtain ⟨⟩ := h; simp_all; done) | simp_all
@[simp] theorem c36_fn (l : List TEntry) : c36.fn [.sl false 4 yTEntry (ML encTEntry l)] [] = some ((fun (l : List TEntry) => l.length ≤ 1099511627776) l, (fun (l : List TEntry) => (dB (mAreEntries l) : D)) l, (fun (l : List TEntry) => []) l) :=
  mkCon_fn (fun x y h _ => c36_inj x y h) (l : (List TEntry)) (by simp [nz, nz1, ML_nil, encLTEntry]) rfl
@[simp] theorem c36_fn1 (s_l : Nat) (z_l : D) : c36.fn [.sl false s_l z_l []] [] = some ((fun (l : List TEntry) => l.length ≤ 1099511627776) [], (fun (l : List TEntry) => (dB (mAreEntries l) : D)) [], (fun (l : List TEntry) => []) []) :=
  mkCon_fn (fun x y h _ => c36_inj x y h) ([] : (List TEntry)) (by simp [nz, nz1, ML_nil, encLTEntry]) rfl
theorem c36_pc (l : List TEntry) (hpre : l.length ≤ 1099511627776) : PCo Try.prog 36 [encLTEntry l] (Tab.of []) (dB (mAreEntries l)) (Tab.of []) := by
  refine pco_of_run [] (E := ⟨[c56], [], []⟩) (m := false) (base := 0) (Env.ok_cons c56_ok Env.ok_nil) G_ok mix 300 6 Try.func36 (by kernel_rfl) rfl (by kernel_rfl) (by kernel_rfl) rfl ?_
  simp [Try.f36]
  refine loop_inv (fun p : Nat => p ≤ l.length ∧ upFrom 0 l = upFrom (prevA l p) (l.drop p)) (fun p => [(0, encLTEntry l), (3, dI p)]) (fun _ => []) 1 (fun p => l.length - p) 0 400 (by simp) (by simp [prevA]) (by simp) ?_
  intro p ⟨hp, hi⟩
  simp
  refine ⟨fun hlt => ?_, fun hge => ?_⟩
  · rw [upFrom_at hlt] at hi
    have e1 : prevA l (p + 1) = (l[p]?.getD default).At := by simp [prevA]
    have e2 : mIsEntry (l[p]?.getD default) = (mIn (l[p]?.getD default).From 0 999 && mIn (l[p]?.getD default).To 0 999 && !decide ((l[p]?.getD default).From = (l[p]?.getD default).To) && mIn (l[p]?.getD default).Cents 1 10000000 && mIn (l[p]?.getD default).At 0 100000) := rfl
    have e3 : prevA l p = if p = 0 then 0 else (l[p - 1]?.getD default).At := rfl
    have e4 := mIn_iff (x := (l[p]?.getD default).At) (y := 0) (z := 100000)
    repeat' (first | omega | refine And.intro ?_ ?_ | intro _)
    all_goals first | exact Again.mk (p + 1) ⟨by omega, by rw [hi, e1]; grind⟩ (by simp) (by first | omega | (simp; omega)) | (rw [mAreEntries, hi]; grind)
  · rw [mAreEntries, hi, upFrom_end hge]; simp; omega
theorem c36_ok : c36.ok Try.prog := mkCon_ok fun l hpre => c36_pc l hpre
end Go.Proofs.Ytnncheloiiannaa
