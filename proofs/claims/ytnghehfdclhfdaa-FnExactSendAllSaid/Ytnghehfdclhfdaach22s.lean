/- Contracts of the functions that the laws run. -/
import Derived.Test.Ytnghehfdclhfdaach16n
import Derived.Test.Ytnghehfdclhfdaach16k
import Derived.Test.Ytnghehfdclhfdaach22p
import Derived.Test.Ytnghehfdclhfdaach09w
import Derived.Test.YtnghehfdclhfdaaEngB
namespace Go.Proofs.Ytnghehfdclhfdaa
open Go Go.Eng
set_option linter.unusedSimpArgs false
set_option linter.unusedVariables false
set_option maxRecDepth 10000
set_option maxHeartbeats 1000000
def pHand (x : TParcel) (i : Nat) : THand := ⟨x.Things[i]?.getD 0, 2, x.To, x.At, 0⟩
def sT (l : List THand) (x : TParcel) : Nat → List THand
  | 0 => l
  | p + 1 => mAddHand (sT l x p) (pHand x p)
def okI (l : List THand) (x : TParcel) (i : Nat) : Bool := mIsChain (sT l x i ++ [mAddH (sT l x i) (pHand x i)])
def okN (l : List THand) (x : TParcel) (p : Nat) : Prop := ∀ i, i < p → okI l x i = true
theorem okN_succ {l : List THand} {x : TParcel} {p : Nat} : okN l x (p + 1) ↔ okN l x p ∧ okI l x p = true := by
  refine ⟨fun h => ⟨fun i hi => h i (by omega), h p (by omega)⟩, fun h i hi => ?_⟩
  by_cases e : i = p
  · subst e; exact h.2
  · exact h.1 i (by omega)
theorem sT_len (l : List THand) (x : TParcel) : ∀ p, (sT l x p).length ≤ l.length + p
  | 0 => by simp [sT]
  | p + 1 => by
    have h1 := sT_len l x p
    have h2 := mAddHand_len (sT l x p) (pHand x p)
    simp only [sT]; omega
def inH (l : List THand) (x : TParcel) (p : Nat) : Prop := ∀ i, i < p → x.Things[i]?.getD 0 ∈ mInHouse l x.From
theorem inH_succ {l : List THand} {x : TParcel} {p : Nat} : inH l x (p + 1) ↔ inH l x p ∧ x.Things[p]?.getD 0 ∈ mInHouse l x.From := by
  refine ⟨fun h => ⟨fun i hi => h i (by omega), h p (by omega)⟩, fun h i hi => ?_⟩
  by_cases e : i = p
  · subst e; exact h.2
  · exact h.1 i (by omega)
def goodS (l : List THand) (x : TParcel) : Prop := mIsParcel x = true ∧ inH l x x.Things.length ∧ okN l x x.Things.length
noncomputable def mSendOk (l : List THand) (x : TParcel) : Bool := @decide (goodS l x) (Classical.propDecidable _)
noncomputable def mSend (l : List THand) (x : TParcel) : List THand := if mSendOk l x then sT l x x.Things.length else l
theorem mSend_yes {l : List THand} {x : TParcel} (h : goodS l x) : mSendOk l x = true ∧ mSend l x = sT l x x.Things.length := by
  have : mSendOk l x = true := by simp [mSendOk, h]
  exact ⟨this, by simp [mSend, this]⟩
theorem mSend_no {l : List THand} {x : TParcel} (h : ¬ goodS l x) : mSendOk l x = false ∧ mSend l x = l := by
  have : mSendOk l x = false := by simp [mSendOk, h]
  exact ⟨this, by simp [mSend, this]⟩
theorem parcel_len {x : TParcel} (h : mIsParcel x = true) : 1 ≤ x.Things.length ∧ x.Things.length ≤ 10 := by
  simp only [mIsParcel, Bool.and_eq_true] at h
  have := mIn_iff.1 h.1.1.2
  omega
theorem inH_all {l : List THand} {x : TParcel} : hasAll (some (mInHouse l x.From)) (some x.Things) = true ↔ inH l x x.Things.length := by
  rw [hasAll_some]
  have h := indexBy_any9 (w := fun n => !hasC (some (mInHouse l x.From)) n) x.Things 0 (by omega)
  simp only [Bool.not_eq_true', decide_eq_false_iff_not, h]
  simp only [hasC_some, List.any_eq_true, not_exists, not_and]
  constructor
  · intro ha i hi
    have hm : x.Things[i]?.getD 0 ∈ x.Things := by rw [List.getElem?_eq_getElem hi]; exact List.getElem_mem _
    have := ha _ hm
    simpa using this
  · intro hb n hn
    obtain ⟨i, hi, rfl⟩ := List.getElem_of_mem hn
    have := hb i hi
    rw [List.getElem?_eq_getElem hi] at this
    simpa using this
/-- loop.example/g03007/impl.SendParcel -/
noncomputable def c63 : Con := mkCon 63 false (α := (List THand) × TParcel) (fun x => (fun (l : List THand) (x : TParcel) => [encLTHand l, encTParcel x]) x.1 x.2) (fun _ => []) (fun x => (fun (l : List THand) (x : TParcel) => l.length ≤ 1073741000 ∧ smP x) x.1 x.2) (fun x => (fun (l : List THand) (x : TParcel) => (.tup [.own (0, 1) 5 0 (mSend l x).length, dB (mSendOk l x)] : D)) x.1 x.2) (fun x => (fun (l : List THand) (x : TParcel) => [((0, 1), .arr false 5 yTHand (ML encTHand (mSend l x)))]) x.1 x.2)
@[simp] theorem c63_f : c63.f = 63 := rfl
@[simp] theorem c63_own : c63.own = false := rfl
theorem c63_inj : ∀ u_ v_ : (List THand) × TParcel, ((fun x => (fun (l : List THand) (x : TParcel) => [encLTHand l, encTParcel x]) x.1 x.2) u_).map nz = ((fun x => (fun (l : List THand) (x : TParcel) => [encLTHand l, encTParcel x]) x.1 x.2) v_).map nz → u_ = v_ := by
  intro u_ v_ h
  obtain ⟨l, ⟨x_From, x_To, x_Things, x_At⟩⟩ := u_
  obtain ⟨l', ⟨x_From', x_To', x_Things', x_At'⟩⟩ := v_
  simp [nz_lit, nz1_lit, nz_agg, nz_sl, nz1_sl, encLI, encLTHand, encTParcel] at h
  first | (simp [h]; done) | (obtain ⟨⟩ := h; simp_all; done) | simp_all
@[simp] theorem c63_fn (l : List THand) (x_From : Int) (x_To : Int) (x_Things : List Int) (x_At : Int) : c63.fn [.sl false 5 yTHand (ML encTHand l), .agg [.lit (.int .i64 x_From), .lit (.int .i64 x_To), .sl false 1 (.lit (.int .i64 0)) (ML dI x_Things), .lit (.int .i64 x_At)]] [] = some ((fun (l : List THand) (x : TParcel) => l.length ≤ 1073741000 ∧ smP x) l ⟨x_From, x_To, x_Things, x_At⟩, (fun (l : List THand) (x : TParcel) => (.tup [.own (0, 1) 5 0 (mSend l x).length, dB (mSendOk l x)] : D)) l ⟨x_From, x_To, x_Things, x_At⟩, (fun (l : List THand) (x : TParcel) => [((0, 1), .arr false 5 yTHand (ML encTHand (mSend l x)))]) l ⟨x_From, x_To, x_Things, x_At⟩) :=
  mkCon_fn (fun x y h _ => c63_inj x y h) ((l, ⟨x_From, x_To, x_Things, x_At⟩) : (List THand) × TParcel) (by simp [nz, nz1, ML_nil, encLI, encLTHand, encTParcel]) rfl
@[simp] theorem c63_fn1 (s_l : Nat) (z_l : D) (x_From : Int) (x_To : Int) (x_Things : List Int) (x_At : Int) : c63.fn [.sl false s_l z_l [], .agg [.lit (.int .i64 x_From), .lit (.int .i64 x_To), .sl false 1 (.lit (.int .i64 0)) (ML dI x_Things), .lit (.int .i64 x_At)]] [] = some ((fun (l : List THand) (x : TParcel) => l.length ≤ 1073741000 ∧ smP x) [] ⟨x_From, x_To, x_Things, x_At⟩, (fun (l : List THand) (x : TParcel) => (.tup [.own (0, 1) 5 0 (mSend l x).length, dB (mSendOk l x)] : D)) [] ⟨x_From, x_To, x_Things, x_At⟩, (fun (l : List THand) (x : TParcel) => [((0, 1), .arr false 5 yTHand (ML encTHand (mSend l x)))]) [] ⟨x_From, x_To, x_Things, x_At⟩) :=
  mkCon_fn (fun x y h _ => c63_inj x y h) (([], ⟨x_From, x_To, x_Things, x_At⟩) : (List THand) × TParcel) (by simp [nz, nz1, ML_nil, encLI, encLTHand, encTParcel]) rfl
theorem c63_pc (l : List THand) (x : TParcel) (hpre : l.length ≤ 1073741000 ∧ smP x) : PCo Try.prog 63 [encLTHand l, encTParcel x] (Tab.of []) (.tup [.own (0, 1) 5 0 (mSend l x).length, dB (mSendOk l x)]) (Tab.of [((0, 1), .arr false 5 yTHand (ML encTHand (mSend l x)))]) := by
  refine pco_of_run [1000090, 1000089] (E := ⟨[c62, c88, c89, c90, c91], [], []⟩) (m := false) (base := 0) (Env.ok_cons c62_ok (Env.ok_cons c88_ok (Env.ok_cons c89_ok (Env.ok_cons c90_ok (Env.ok_cons c91_ok Env.ok_nil))))) G_ok mix 300 6 Try.func63 (by kernel_rfl) rfl (by kernel_rfl) (by kernel_rfl) rfl ?_
  obtain ⟨hl, hx⟩ := hpre
  simp at hx
  cases hc : mIsParcel x with
  | false =>
    have hn := mSend_no (l := l) (x := x) fun h => by rw [h.1] at hc; cases hc
    simp [Try.f63, hc, hn.1, hn.2, hx]
    omega
  | true =>
    have hpl := parcel_len hc
    have hall := inH_all (l := l) (x := x)
    cases ha : hasAll (some (mInHouse l x.From)) (some x.Things) with
    | false =>
      have hn := mSend_no (l := l) (x := x) fun h => by rw [hall.2 h.2.1] at ha; cases ha
      have hb := mInHouse_len l x.From
      simp [Try.f63, hc, ha, hn.1, hn.2, hx]
      omega
    | true =>
      have hin := hall.1 ha
      have hb := mInHouse_len l x.From
      simp [Try.f63, hc, ha, hx]
      refine ⟨by omega, by omega, ?_⟩
      refine loop_inv (fun p : Nat => p ≤ x.Things.length ∧ okN l x p) (fun p => [(0, encLTHand l), (3, .ptr (0, 1) 0), (6, .own (1, 1) 5 0 (sT l x p).length), (30, encLI x.Things), (31, dI x.Things.length), (32, dI p)]) (fun p => [((0, 1), .box (encTParcel x)), ((1, 1), .arr false 5 yTHand (ML encTHand (sT l x p)))]) 2 (fun p => x.Things.length - p) 0 400 (by simp) (by simp [okN]) (by simp [sT]) ?_
      intro p ⟨hp, hok⟩
      have hlen := sT_len l x p
      simp
      have hk : (⟨x.Things[p]?.getD 0, 2, x.To, x.At, 0⟩ : THand) = pHand x p := rfl
      rw [hk]
      refine ⟨fun hlt => ⟨hlt, by omega, fun hf => ?_, fun ht => ?_⟩, fun hge => ?_⟩
      · have hn := mSend_no (l := l) (x := x) fun h => by
          have := h.2.2 p hlt
          rw [okI, hf] at this; cases this
        rw [hn.1, hn.2]
        exact ⟨by omega, ⟨rfl, rfl⟩, rfl⟩
      · refine ⟨by omega, Again.mk (p + 1) ⟨by omega, okN_succ.2 ⟨hok, ht⟩⟩ (by simp [sT, hk]) (by first | omega | (simp; omega))⟩
      · have : p = x.Things.length := by omega
        subst this
        have hy := mSend_yes (l := l) (x := x) ⟨hc, hin, hok⟩
        rw [hy.1, hy.2]
        simp
theorem c63_ok : c63.ok Try.prog := mkCon_ok fun ⟨l, x⟩ hpre => c63_pc l x hpre
/-- loop.example/g03007/spec.SendParcel -/
noncomputable def c59 : Con := mkCon 59 false (α := (List THand) × TParcel) (fun x => (fun (l : List THand) (x : TParcel) => [encLTHand l, encTParcel x]) x.1 x.2) (fun _ => []) (fun x => (fun (l : List THand) (x : TParcel) => l.length ≤ 1073741000 ∧ smP x) x.1 x.2) (fun x => (fun (l : List THand) (x : TParcel) => (.tup [.own (0, 1) 5 0 (mSend l x).length, dB (mSendOk l x)] : D)) x.1 x.2) (fun x => (fun (l : List THand) (x : TParcel) => [((0, 1), .arr false 5 yTHand (ML encTHand (mSend l x)))]) x.1 x.2)
@[simp] theorem c59_f : c59.f = 59 := rfl
@[simp] theorem c59_own : c59.own = false := rfl
theorem c59_inj : ∀ u_ v_ : (List THand) × TParcel, ((fun x => (fun (l : List THand) (x : TParcel) => [encLTHand l, encTParcel x]) x.1 x.2) u_).map nz = ((fun x => (fun (l : List THand) (x : TParcel) => [encLTHand l, encTParcel x]) x.1 x.2) v_).map nz → u_ = v_ := by
  intro u_ v_ h
  obtain ⟨l, ⟨x_From, x_To, x_Things, x_At⟩⟩ := u_
  obtain ⟨l', ⟨x_From', x_To', x_Things', x_At'⟩⟩ := v_
  simp [nz_lit, nz1_lit, nz_agg, nz_sl, nz1_sl, encLI, encLTHand, encTParcel] at h
  first | (simp [h]; done) | (obtain ⟨⟩ := h; simp_all; done) | simp_all
@[simp] theorem c59_fn (l : List THand) (x_From : Int) (x_To : Int) (x_Things : List Int) (x_At : Int) : c59.fn [.sl false 5 yTHand (ML encTHand l), .agg [.lit (.int .i64 x_From), .lit (.int .i64 x_To), .sl false 1 (.lit (.int .i64 0)) (ML dI x_Things), .lit (.int .i64 x_At)]] [] = some ((fun (l : List THand) (x : TParcel) => l.length ≤ 1073741000 ∧ smP x) l ⟨x_From, x_To, x_Things, x_At⟩, (fun (l : List THand) (x : TParcel) => (.tup [.own (0, 1) 5 0 (mSend l x).length, dB (mSendOk l x)] : D)) l ⟨x_From, x_To, x_Things, x_At⟩, (fun (l : List THand) (x : TParcel) => [((0, 1), .arr false 5 yTHand (ML encTHand (mSend l x)))]) l ⟨x_From, x_To, x_Things, x_At⟩) :=
  mkCon_fn (fun x y h _ => c59_inj x y h) ((l, ⟨x_From, x_To, x_Things, x_At⟩) : (List THand) × TParcel) (by simp [nz, nz1, ML_nil, encLI, encLTHand, encTParcel]) rfl
@[simp] theorem c59_fn1 (s_l : Nat) (z_l : D) (x_From : Int) (x_To : Int) (x_Things : List Int) (x_At : Int) : c59.fn [.sl false s_l z_l [], .agg [.lit (.int .i64 x_From), .lit (.int .i64 x_To), .sl false 1 (.lit (.int .i64 0)) (ML dI x_Things), .lit (.int .i64 x_At)]] [] = some ((fun (l : List THand) (x : TParcel) => l.length ≤ 1073741000 ∧ smP x) [] ⟨x_From, x_To, x_Things, x_At⟩, (fun (l : List THand) (x : TParcel) => (.tup [.own (0, 1) 5 0 (mSend l x).length, dB (mSendOk l x)] : D)) [] ⟨x_From, x_To, x_Things, x_At⟩, (fun (l : List THand) (x : TParcel) => [((0, 1), .arr false 5 yTHand (ML encTHand (mSend l x)))]) [] ⟨x_From, x_To, x_Things, x_At⟩) :=
  mkCon_fn (fun x y h _ => c59_inj x y h) (([], ⟨x_From, x_To, x_Things, x_At⟩) : (List THand) × TParcel) (by simp [nz, nz1, ML_nil, encLI, encLTHand, encTParcel]) rfl
theorem c59_pc (l : List THand) (x : TParcel) (hpre : l.length ≤ 1073741000 ∧ smP x) : PCo Try.prog 59 [encLTHand l, encTParcel x] (Tab.of []) (.tup [.own (0, 1) 5 0 (mSend l x).length, dB (mSendOk l x)]) (Tab.of [((0, 1), .arr false 5 yTHand (ML encTHand (mSend l x)))]) := by
  refine pco_of_run [] (E := ⟨[c84, c85, c86, c87], [], []⟩) (m := false) (base := 0) (Env.ok_cons c84_ok (Env.ok_cons c85_ok (Env.ok_cons c86_ok (Env.ok_cons c87_ok Env.ok_nil)))) G_ok mix 300 6 Try.func59 (by kernel_rfl) rfl (by kernel_rfl) (by kernel_rfl) rfl ?_
  obtain ⟨hl, hx⟩ := hpre
  simp at hx
  cases hc : mIsParcel x with
  | false =>
    have hn := mSend_no (l := l) (x := x) fun h => by rw [h.1] at hc; cases hc
    simp [Try.f59, hc, hn.1, hn.2, hx]
    omega
  | true =>
    have hpl := parcel_len hc
    have hb := mInHouse_len l x.From
    simp [Try.f59, hc, hx]
    refine ⟨by omega, by omega, ?_⟩
    refine loop_inv (fun p : Nat => p ≤ x.Things.length ∧ okN l x p ∧ inH l x p) (fun p => [(0, encLTHand l), (3, .ptr (0, 1) 0), (6, .own (1, 1) 5 0 (sT l x p).length), (7, encLI (mInHouse l x.From)), (8, dI p)]) (fun p => [((0, 1), .box (encTParcel x)), ((1, 1), .arr false 5 yTHand (ML encTHand (sT l x p)))]) 2 (fun p => x.Things.length - p) 0 400 (by simp) (by simp [okN, inH]) (by simp [sT]) ?_
    intro p ⟨hp, hok, hinp⟩
    have hlen := sT_len l x p
    simp
    have hk : (⟨x.Things[p]?.getD 0, 2, x.To, x.At, 0⟩ : THand) = pHand x p := rfl
    rw [hk]
    refine ⟨fun hlt => ⟨⟨hlt, by omega⟩, ⟨fun _ => hlt, fun _ => by omega⟩, fun hf => ?_, fun h1 h2 => ?_⟩, fun hge => ?_⟩
    · have hn := mSend_no (l := l) (x := x) fun h => by
        rcases hf with hf | hf
        · have := h.2.2 p hlt
          rw [okI, hf] at this; cases this
        · exact hf (h.2.1 p hlt)
      rw [hn.1, hn.2]
      exact ⟨by omega, ⟨rfl, rfl⟩, rfl⟩
    · refine ⟨by omega, Again.mk (p + 1) ⟨by omega, okN_succ.2 ⟨hok, h1⟩, inH_succ.2 ⟨hinp, h2⟩⟩ (by simp [sT, hk]) (by first | omega | (simp; omega))⟩
    · have : p = x.Things.length := by omega
      subst this
      have hy := mSend_yes (l := l) (x := x) ⟨hc, hinp, hok⟩
      rw [hy.1, hy.2]
      simp
theorem c59_ok : c59.ok Try.prog := mkCon_ok fun ⟨l, x⟩ hpre => c59_pc l x hpre
/-- loop.example/g03007/laws.toParcel -/
noncomputable def c61f : Con := mkCon 61 false (α := TParcel) (fun x => (fun (r : TParcel) => [encTParcel r]) x) (fun _ => []) (fun x => (fun (r : TParcel) => smP r) x) (fun x => (fun (r : TParcel) => (.agg [dI r.From, dI r.To, .own (0, 1) 1 0 r.Things.length, dI r.At] : D)) x) (fun x => (fun (r : TParcel) => [((0, 1), .arr false 1 (dI 0) (ML dI r.Things))]) x)
@[simp] theorem c61f_f : c61f.f = 61 := rfl
@[simp] theorem c61f_own : c61f.own = false := rfl
theorem c61f_inj : ∀ u_ v_ : TParcel, ((fun x => (fun (r : TParcel) => [encTParcel r]) x) u_).map nz = ((fun x => (fun (r : TParcel) => [encTParcel r]) x) v_).map nz → u_ = v_ := by
  intro u_ v_ h
  obtain ⟨r_From, r_To, r_Things, r_At⟩ := u_
  obtain ⟨r_From', r_To', r_Things', r_At'⟩ := v_
  simp [nz_lit, nz1_lit, nz_agg, nz_sl, nz1_sl, encLI, encTParcel] at h
  first | (simp [h]; done) | (obtain ⟨⟩ := h; simp_all; done) | simp_all
@[simp] theorem c61f_fn (r_From : Int) (r_To : Int) (r_Things : List Int) (r_At : Int) : c61f.fn [.agg [.lit (.int .i64 r_From), .lit (.int .i64 r_To), .sl false 1 (.lit (.int .i64 0)) (ML dI r_Things), .lit (.int .i64 r_At)]] [] = some ((fun (r : TParcel) => smP r) ⟨r_From, r_To, r_Things, r_At⟩, (fun (r : TParcel) => (.agg [dI r.From, dI r.To, .own (0, 1) 1 0 r.Things.length, dI r.At] : D)) ⟨r_From, r_To, r_Things, r_At⟩, (fun (r : TParcel) => [((0, 1), .arr false 1 (dI 0) (ML dI r.Things))]) ⟨r_From, r_To, r_Things, r_At⟩) :=
  mkCon_fn (fun x y h _ => c61f_inj x y h) (⟨r_From, r_To, r_Things, r_At⟩ : TParcel) (by simp [nz, nz1, ML_nil, encLI, encTParcel]) rfl
theorem c61f_pc (r : TParcel) (hpre : smP r) : PCo Try.prog 61 [encTParcel r] (Tab.of []) (.agg [dI r.From, dI r.To, .own (0, 1) 1 0 r.Things.length, dI r.At]) (Tab.of [((0, 1), .arr false 1 (dI 0) (ML dI r.Things))]) := by
  obtain ⟨r_From, r_To, r_Things, r_At⟩ := r
  refine pco_of_run [] (E := ⟨[c53], [], []⟩) (m := false) (base := 0) (Env.ok_cons c53_ok Env.ok_nil) G_ok mix 300 6 Try.func61 (by kernel_rfl) rfl (by kernel_rfl) (by kernel_rfl) rfl ?_
  simp [Try.f61]
  simp at hpre
  exact hpre
theorem c61f_ok : c61f.ok Try.prog := mkCon_ok fun r hpre => c61f_pc r hpre
theorem mSend_len (l : List THand) (x : TParcel) : (mSend l x).length ≤ l.length + x.Things.length := by
  rw [mSend]; split
  · exact sT_len ..
  · omega
end Go.Proofs.Ytnghehfdclhfdaa
