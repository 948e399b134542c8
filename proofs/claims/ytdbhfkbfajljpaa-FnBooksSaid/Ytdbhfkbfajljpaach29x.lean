/- Contracts of the functions that the laws run. -/
import Derived.Test.Ytdbhfkbfajljpaach01
import Derived.Test.YtdbhfkbfajljpaaEngB
namespace Go.Proofs.Ytdbhfkbfajljpaa
open Go Go.Eng
set_option linter.unusedSimpArgs false
set_option linter.unusedVariables false
set_option maxRecDepth 10000
set_option maxHeartbeats 1000000
def mIsEntry (x : TEntry) : Bool := mIn x.From 0 999 && mIn x.To 0 999 && !decide (x.From = x.To) && mIn x.Cents 1 10000000 && mIn x.At 0 100000
/-- (loop.example/g03007/impl.Entry).accounts -/
noncomputable def c45 : Con := mkCon 45 false (α := TEntry) (fun x => (fun (x : TEntry) => [encTEntry x]) x) (fun _ => []) (fun x => (fun (x : TEntry) => True) x) (fun x => (fun (x : TEntry) => (.agg [dI x.From, dI x.To] : D)) x) (fun x => (fun (x : TEntry) => []) x)
@[simp] theorem c45_f : c45.f = 45 := rfl
@[simp] theorem c45_own : c45.own = false := rfl
theorem c45_inj : ∀ u_ v_ : TEntry, ((fun x => (fun (x : TEntry) => [encTEntry x]) x) u_).map nz = ((fun x => (fun (x : TEntry) => [encTEntry x]) x) v_).map nz → u_ = v_ := by
  intro u_ v_ h
  obtain ⟨x_From, x_To, x_Cents, x_At⟩ := u_
  obtain ⟨x_From', x_To', x_Cents', x_At'⟩ := v_
  simp [nz_lit, nz1_lit, nz_agg, nz_sl, nz1_sl, encTEntry] at h
  first | (simp [h]; done) | (obtain ⟨⟩ := h; simp_all; done) | simp_all
@[simp] theorem c45_fn (x_From : Int) (x_To : Int) (x_Cents : Int) (x_At : Int) : c45.fn [.agg [.lit (.int .i64 x_From), .lit (.int .i64 x_To), .lit (.int .i64 x_Cents), .lit (.int .i64 x_At)]] [] = some ((fun (x : TEntry) => True) ⟨x_From, x_To, x_Cents, x_At⟩, (fun (x : TEntry) => (.agg [dI x.From, dI x.To] : D)) ⟨x_From, x_To, x_Cents, x_At⟩, (fun (x : TEntry) => []) ⟨x_From, x_To, x_Cents, x_At⟩) :=
  mkCon_fn (fun x y h _ => c45_inj x y h) (⟨x_From, x_To, x_Cents, x_At⟩ : TEntry) (by simp [nz, nz1, ML_nil, encTEntry]) rfl
theorem c45_pc (x : TEntry) : PCo Try.prog 45 [encTEntry x] (Tab.of []) (.agg [dI x.From, dI x.To]) (Tab.of []) := by
  obtain ⟨x_From, x_To, x_Cents, x_At⟩ := x
  refine pco_of_run [] (E := ⟨[], [], []⟩) (m := false) (base := 0) Env.ok_nil G_ok mix 300 6 Try.func45 (by kernel_rfl) rfl (by kernel_rfl) (by kernel_rfl) rfl ?_
  simp [Try.f45]
  all_goals first | omega | (rw [Bool.eq_iff_iff]; simp; omega) | grind
theorem c45_ok : c45.ok Try.prog := mkCon_ok fun x hpre => c45_pc x
/-- loop.example/g03007/impl.isEntry -/
noncomputable def c49 : Con := mkCon 49 false (α := TEntry) (fun x => (fun (x : TEntry) => [encTEntry x]) x) (fun _ => []) (fun x => (fun (x : TEntry) => True) x) (fun x => (fun (x : TEntry) => (dB (mIsEntry x) : D)) x) (fun x => (fun (x : TEntry) => []) x)
@[simp] theorem c49_f : c49.f = 49 := rfl
@[simp] theorem c49_own : c49.own = false := rfl
theorem c49_inj : ∀ u_ v_ : TEntry, ((fun x => (fun (x : TEntry) => [encTEntry x]) x) u_).map nz = ((fun x => (fun (x : TEntry) => [encTEntry x]) x) v_).map nz → u_ = v_ := by
  intro u_ v_ h
  obtain ⟨x_From, x_To, x_Cents, x_At⟩ := u_
  obtain ⟨x_From', x_To', x_Cents', x_At'⟩ := v_
  simp [nz_lit, nz1_lit, nz_agg, nz_sl, nz1_sl, encTEntry] at h
  first | (simp [h]; done) | (obtain ⟨⟩ := h; simp_all; done) | simp_all
@[simp] theorem c49_fn (x_From : Int) (x_To : Int) (x_Cents : Int) (x_At : Int) : c49.fn [.agg [.lit (.int .i64 x_From), .lit (.int .i64 x_To), .lit (.int .i64 x_Cents), .lit (.int .i64 x_At)]] [] = some ((fun (x : TEntry) => True) ⟨x_From, x_To, x_Cents, x_At⟩, (fun (x : TEntry) => (dB (mIsEntry x) : D)) ⟨x_From, x_To, x_Cents, x_At⟩, (fun (x : TEntry) => []) ⟨x_From, x_To, x_Cents, x_At⟩) :=
  mkCon_fn (fun x y h _ => c49_inj x y h) (⟨x_From, x_To, x_Cents, x_At⟩ : TEntry) (by simp [nz, nz1, ML_nil, encTEntry]) rfl
theorem c49_pc (x : TEntry) : PCo Try.prog 49 [encTEntry x] (Tab.of []) (dB (mIsEntry x)) (Tab.of []) := by
  obtain ⟨x_From, x_To, x_Cents, x_At⟩ := x
  refine pco_of_run [] (E := ⟨[c36, c45], [], []⟩) (m := false) (base := 0) (Env.ok_cons c36_ok (Env.ok_cons c45_ok Env.ok_nil)) G_ok mix 300 6 Try.func49 (by kernel_rfl) rfl (by kernel_rfl) (by kernel_rfl) rfl ?_
  simp [Try.f49]
  refine loop_unroll 400 ?_
  simp [mIsEntry]
  first | done | grind
theorem c49_ok : c49.ok Try.prog := mkCon_ok fun x hpre => c49_pc x
def upFrom : Int → List TEntry → Bool
  | _, [] => true
  | e, x :: r => mIsEntry x && decide (e ≤ x.At) && upFrom x.At r
theorem upFrom_at {e : Int} {l : List TEntry} {p : Nat} (h : p < l.length) : upFrom e (l.drop p) = (mIsEntry (l[p]?.getD default) && decide (e ≤ (l[p]?.getD default).At) && upFrom (l[p]?.getD default).At (l.drop (p + 1))) := by
  rw [drop_at (d := default) h, upFrom]
theorem upFrom_end {e : Int} {l : List TEntry} {p : Nat} (h : l.length ≤ p) : upFrom e (l.drop p) = true := by
  rw [List.drop_eq_nil_of_le h, upFrom]
def mAreEntries (l : List TEntry) : Bool := decide (l.length ≤ 100) && upFrom 0 l
/-- loop.example/g03007/impl.AreEntries -/
noncomputable def c25 : Con := mkCon 25 false (α := (List TEntry)) (fun x => (fun (l : List TEntry) => [encLTEntry l]) x) (fun _ => []) (fun x => (fun (l : List TEntry) => l.length ≤ 1099511627776) x) (fun x => (fun (l : List TEntry) => (dB (mAreEntries l) : D)) x) (fun x => (fun (l : List TEntry) => []) x)
@[simp] theorem c25_f : c25.f = 25 := rfl
@[simp] theorem c25_own : c25.own = false := rfl
theorem c25_inj : ∀ u_ v_ : (List TEntry), ((fun x => (fun (l : List TEntry) => [encLTEntry l]) x) u_).map nz = ((fun x => (fun (l : List TEntry) => [encLTEntry l]) x) v_).map nz → u_ = v_ := by
  intro u_ v_ h
  obtain l := u_
  obtain l' := v_
  simp [nz_lit, nz1_lit, nz_agg, nz_sl, nz1_sl, encLTEntry] at h
  first | (simp [h]; done) | (obtain ⟨⟩ := h; simp_all; done) | simp_all
@[simp] theorem c25_fn (l : List TEntry) : c25.fn [.sl false 4 yTEntry (ML encTEntry l)] [] = some ((fun (l : List TEntry) => l.length ≤ 1099511627776) l, (fun (l : List TEntry) => (dB (mAreEntries l) : D)) l, (fun (l : List TEntry) => []) l) :=
  mkCon_fn (fun x y h _ => c25_inj x y h) (l : (List TEntry)) (by simp [nz, nz1, ML_nil, encLTEntry]) rfl
@[simp] theorem c25_fn1 (s_l : Nat) (z_l : D) : c25.fn [.sl false s_l z_l []] [] = some ((fun (l : List TEntry) => l.length ≤ 1099511627776) [], (fun (l : List TEntry) => (dB (mAreEntries l) : D)) [], (fun (l : List TEntry) => []) []) :=
  mkCon_fn (fun x y h _ => c25_inj x y h) ([] : (List TEntry)) (by simp [nz, nz1, ML_nil, encLTEntry]) rfl
theorem c25_pc (l : List TEntry) (hpre : l.length ≤ 1099511627776) : PCo Try.prog 25 [encLTEntry l] (Tab.of []) (dB (mAreEntries l)) (Tab.of []) := by
  refine pco_of_run [] (E := ⟨[c49], [], []⟩) (m := false) (base := 0) (Env.ok_cons c49_ok Env.ok_nil) G_ok mix 300 6 Try.func25 (by kernel_rfl) rfl (by kernel_rfl) (by kernel_rfl) rfl ?_
  simp [Try.f25]
  refine ⟨fun h => by simp [mAreEntries]; omega, fun h0 => ?_⟩
  have h0' : l.length ≤ 100 := by omega
  refine loop_inv (fun p : Nat × Int => p.1 ≤ l.length ∧ mAreEntries l = upFrom p.2 (l.drop p.1)) (fun p => [(3, dI p.2), (9, encLTEntry l), (10, dI l.length), (11, dI p.1)]) (fun _ => []) 1 (fun p => l.length - p.1) (0, 0) 400 (by simp) (by simp [mAreEntries, h0']) (by simp) ?_
  intro ⟨p, e⟩ ⟨hp, hi⟩
  simp at hp hi ⊢
  refine ⟨fun hlt => ?_, fun hge => ?_⟩
  · rw [upFrom_at hlt] at hi
    repeat' (first | omega | refine And.intro ?_ ?_ | intro _)
    all_goals first | exact Again.mk (p + 1, (l[p]?.getD default).At) ⟨by simp; omega, by simp only []; rw [hi]; grind⟩ (by simp) (by first | omega | (simp; omega)) | (rw [hi]; grind)
  · rw [hi, upFrom_end hge]
theorem c25_ok : c25.ok Try.prog := mkCon_ok fun l hpre => c25_pc l hpre
def prevA (l : List TEntry) (p : Nat) : Int := if p = 0 then 0 else (l[p - 1]?.getD default).At
/-- loop.example/g03007/spec.AreEntries -/
noncomputable def c66 : Con := mkCon 66 false (α := (List TEntry)) (fun x => (fun (l : List TEntry) => [encLTEntry l]) x) (fun _ => []) (fun x => (fun (l : List TEntry) => l.length ≤ 1099511627776) x) (fun x => (fun (l : List TEntry) => (dB (mAreEntries l) : D)) x) (fun x => (fun (l : List TEntry) => []) x)
@[simp] theorem c66_f : c66.f = 66 := rfl
@[simp] theorem c66_own : c66.own = false := rfl
theorem c66_inj : ∀ u_ v_ : (List TEntry), ((fun x => (fun (l : List TEntry) => [encLTEntry l]) x) u_).map nz = ((fun x => (fun (l : List TEntry) => [encLTEntry l]) x) v_).map nz → u_ = v_ := by
  intro u_ v_ h
  obtain l := u_
  obtain l' := v_
  simp [nz_lit, nz1_lit, nz_agg, nz_sl, nz1_sl, encLTEntry] at h
  first | (simp [h]; done) | (obtain ⟨⟩ := h; simp_all; done) | simp_all
@[simp] theorem c66_fn (l : List TEntry) : c66.fn [.sl false 4 yTEntry (ML encTEntry l)] [] = some ((fun (l : List TEntry) => l.length ≤ 1099511627776) l, (fun (l : List TEntry) => (dB (mAreEntries l) : D)) l, (fun (l : List TEntry) => []) l) :=
  mkCon_fn (fun x y h _ => c66_inj x y h) (l : (List TEntry)) (by simp [nz, nz1, ML_nil, encLTEntry]) rfl
@[simp] theorem c66_fn1 (s_l : Nat) (z_l : D) : c66.fn [.sl false s_l z_l []] [] = some ((fun (l : List TEntry) => l.length ≤ 1099511627776) [], (fun (l : List TEntry) => (dB (mAreEntries l) : D)) [], (fun (l : List TEntry) => []) []) :=
  mkCon_fn (fun x y h _ => c66_inj x y h) ([] : (List TEntry)) (by simp [nz, nz1, ML_nil, encLTEntry]) rfl
theorem c66_pc (l : List TEntry) (hpre : l.length ≤ 1099511627776) : PCo Try.prog 66 [encLTEntry l] (Tab.of []) (dB (mAreEntries l)) (Tab.of []) := by
  refine pco_of_run [] (E := ⟨[c56], [], []⟩) (m := false) (base := 0) (Env.ok_cons c56_ok Env.ok_nil) G_ok mix 300 6 Try.func66 (by kernel_rfl) rfl (by kernel_rfl) (by kernel_rfl) rfl ?_
  simp [Try.f66]
  refine loop_inv (fun p : Nat => p ≤ l.length ∧ upFrom 0 l = upFrom (prevA l p) (l.drop p)) (fun p => [(0, encLTEntry l), (3, dI p)]) (fun _ => []) 1 (fun p => l.length - p) 0 400 (by simp) (by simp [prevA]) (by simp) ?_
  intro p ⟨hp, hi⟩
  simp
  refine ⟨fun hlt => ?_, fun hge => ?_⟩
  · rw [upFrom_at hlt] at hi
    have e1 : prevA l (p + 1) = (l[p]?.getD default).At := by simp [prevA]
    have e2 : mIsEntry (l[p]?.getD default) = (mIn (l[p]?.getD default).From 0 999 && mIn (l[p]?.getD default).To 0 999 && !decide ((l[p]?.getD default).From = (l[p]?.getD default).To) && mIn (l[p]?.getD default).Cents 1 10000000 && mIn (l[p]?.getD default).At 0 100000) := rfl
    have e3 : prevA l p = if p = 0 then 0 else (l[p - 1]?.getD default).At := rfl
    have e4 := mIn_iff (x := (l[p]?.getD default).At) (y := 0) (z := 100000)
    repeat' (first | omega | refine And.intro ?_ ?_ | intro _)
    all_goals first | exact Again.mk (p + 1) ⟨by omega, by rw [hi, e1]; grind⟩ (by simp) (by first | omega | (simp; omega)) | (rw [mAreEntries, hi]; grind)
  · rw [mAreEntries, hi, upFrom_end hge]; simp; omega
theorem c66_ok : c66.ok Try.prog := mkCon_ok fun l hpre => c66_pc l hpre
end Go.Proofs.Ytdbhfkbfajljpaa
