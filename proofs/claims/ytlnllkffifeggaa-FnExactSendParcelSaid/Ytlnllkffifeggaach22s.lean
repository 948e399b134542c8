/- Contracts of the functions that the laws run. -/
import Derived.Test.Ytlnllkffifeggaach16n
import Derived.Test.Ytlnllkffifeggaach16k
import Derived.Test.Ytlnllkffifeggaach22p
import Derived.Test.Ytlnllkffifeggaach09w
import Derived.Test.YtlnllkffifeggaaEngB
namespace Go.Proofs.Ytlnllkffifeggaa
open Go Go.Eng
set_option linter.unusedSimpArgs false
set_option linter.unusedVariables false
set_option maxRecDepth 10000
set_option maxHeartbeats 1000000
def pHand (x : TParcel) (i : Nat) : THand := ⟨x.Things[i]?.getD 0, 2, x.To, x.At, 0⟩
def sT (l : List THand) (x : TParcel) : Nat → List THand
  | 0 => l
  | p + 1 => mAddHand (sT l x p) (pHand x p)
def okI (l : List THand) (x : TParcel) (i : Nat) : Bool := mIsChain (sT l x i ++ [mAddH (sT l x i) (pHand x i)])
def okS (l : List THand) (x : TParcel) (p : Nat) : Prop := ∀ i, i < p → okI l x i = true
theorem okS_succ {l : List THand} {x : TParcel} {p : Nat} : okS l x (p + 1) ↔ okS l x p ∧ okI l x p = true := by
  refine ⟨fun h => ⟨fun i hi => h i (by omega), h p (by omega)⟩, fun h i hi => ?_⟩
  by_cases e : i = p
  · subst e; exact h.2
  · exact h.1 i (by omega)
theorem sT_len (l : List THand) (x : TParcel) : ∀ p, (sT l x p).length ≤ l.length + p
  | 0 => by simp [sT]
  | p + 1 => by
    have h1 := sT_len l x p
    have h2 := mAddHand_len (sT l x p) (pHand x p)
    simp only [sT]; omega
def inH (l : List THand) (x : TParcel) (p : Nat) : Prop := ∀ i, i < p → x.Things[i]?.getD 0 ∈ mInHouse l x.From
theorem inH_succ {l : List THand} {x : TParcel} {p : Nat} : inH l x (p + 1) ↔ inH l x p ∧ x.Things[p]?.getD 0 ∈ mInHouse l x.From := by
  refine ⟨fun h => ⟨fun i hi => h i (by omega), h p (by omega)⟩, fun h i hi => ?_⟩
  by_cases e : i = p
  · subst e; exact h.2
  · exact h.1 i (by omega)
def goodS (l : List THand) (x : TParcel) : Prop := mIsParcel x = true ∧ inH l x x.Things.length ∧ okS l x x.Things.length
noncomputable def mSendOk (l : List THand) (x : TParcel) : Bool := @decide (goodS l x) (Classical.propDecidable _)
noncomputable def mSend (l : List THand) (x : TParcel) : List THand := if mSendOk l x then sT l x x.Things.length else l
theorem mSend_yes {l : List THand} {x : TParcel} (h : goodS l x) : mSendOk l x = true ∧ mSend l x = sT l x x.Things.length := by
  have : mSendOk l x = true := by simp [mSendOk, h]
  exact ⟨this, by simp [mSend, this]⟩
theorem mSend_no {l : List THand} {x : TParcel} (h : ¬ goodS l x) : mSendOk l x = false ∧ mSend l x = l := by
  have : mSendOk l x = false := by simp [mSendOk, h]
  exact ⟨this, by simp [mSend, this]⟩
theorem parcel_len {x : TParcel} (h : mIsParcel x = true) : 1 ≤ x.Things.length ∧ x.Things.length ≤ 10 := by
  simp only [mIsParcel, Bool.and_eq_true] at h
  have := mIn_iff.1 h.1.1.2
  omega
theorem inH_all {l : List THand} {x : TParcel} : hasAll (some (mInHouse l x.From)) (some x.Things) = true ↔ inH l x x.Things.length := by
  rw [hasAll_some]
  have h := indexBy_any9 (w := fun n => !hasC (some (mInHouse l x.From)) n) x.Things 0 (by omega)
  simp only [Bool.not_eq_true', decide_eq_false_iff_not, h]
  simp only [hasC_some, List.any_eq_true, not_exists, not_and]
  constructor
  · intro ha i hi
    have hm : x.Things[i]?.getD 0 ∈ x.Things := by rw [List.getElem?_eq_getElem hi]; exact List.getElem_mem _
    have := ha _ hm
    simpa using this
  · intro hb n hn
    obtain ⟨i, hi, rfl⟩ := List.getElem_of_mem hn
    have := hb i hi
    rw [List.getElem?_eq_getElem hi] at this
    simpa using this
/-- loop.example/g03007/impl.SendParcel -/
noncomputable def c9 : Con := mkCon 9 false (α := (List THand) × TParcel) (fun x => (fun (l : List THand) (x : TParcel) => [encLTHand l, encTParcel x]) x.1 x.2) (fun _ => []) (fun x => (fun (l : List THand) (x : TParcel) => l.length ≤ 1073741000 ∧ smP x) x.1 x.2) (fun x => (fun (l : List THand) (x : TParcel) => (.tup [.own (0, 1) 5 0 (mSend l x).length, dB (mSendOk l x)] : D)) x.1 x.2) (fun x => (fun (l : List THand) (x : TParcel) => [((0, 1), .arr false 5 yTHand (ML encTHand (mSend l x)))]) x.1 x.2)
@[simp] theorem c9_f : c9.f = 9 := rfl
@[simp] theorem c9_own : c9.own = false := rfl
theorem c9_inj : ∀ u_ v_ : (List THand) × TParcel, ((fun x => (fun (l : List THand) (x : TParcel) => [encLTHand l, encTParcel x]) x.1 x.2) u_).map nz = ((fun x => (fun (l : List THand) (x : TParcel) => [encLTHand l, encTParcel x]) x.1 x.2) v_).map nz → u_ = v_ := by
  intro u_ v_ h
  obtain ⟨l, ⟨x_From, x_To, x_Things, x_At⟩⟩ := u_
  obtain ⟨l', ⟨x_From', x_To', x_Things', x_At'⟩⟩ := v_
  simp [nz_lit, nz1_lit, nz_agg, nz_sl, nz1_sl, encLI, encLTHand, encTParcel] at h
  first | (simp [h]; done) | (obtain ⟨⟩ := h; simp_all; done) | simp_all
@[simp] theorem c9_fn (l : List THand) (x_From : Int) (x_To : Int) (x_Things : List Int) (x_At : Int) : c9.fn [.sl false 5 yTHand (ML encTHand l), .agg [.lit (.int .i64 x_From), .lit (.int .i64 x_To), .sl false 1 (.lit (.int .i64 0)) (ML dI x_Things), .lit (.int .i64 x_At)]] [] = some ((fun (l : List THand) (x : TParcel) => l.length ≤ 1073741000 ∧ smP x) l ⟨x_From, x_To, x_Things, x_At⟩, (fun (l : List THand) (x : TParcel) => (.tup [.own (0, 1) 5 0 (mSend l x).length, dB (mSendOk l x)] : D)) l ⟨x_From, x_To, x_Things, x_At⟩, (fun (l : List THand) (x : TParcel) => [((0, 1), .arr false 5 yTHand (ML encTHand (mSend l x)))]) l ⟨x_From, x_To, x_Things, x_At⟩) :=
  mkCon_fn (fun x y h _ => c9_inj x y h) ((l, ⟨x_From, x_To, x_Things, x_At⟩) : (List THand) × TParcel) (by simp [nz, nz1, ML_nil, encLI, encLTHand, encTParcel]) rfl
@[simp] theorem c9_fn1 (s_l : Nat) (z_l : D) (x_From : Int) (x_To : Int) (x_Things : List Int) (x_At : Int) : c9.fn [.sl false s_l z_l [], .agg [.lit (.int .i64 x_From), .lit (.int .i64 x_To), .sl false 1 (.lit (.int .i64 0)) (ML dI x_Things), .lit (.int .i64 x_At)]] [] = some ((fun (l : List THand) (x : TParcel) => l.length ≤ 1073741000 ∧ smP x) [] ⟨x_From, x_To, x_Things, x_At⟩, (fun (l : List THand) (x : TParcel) => (.tup [.own (0, 1) 5 0 (mSend l x).length, dB (mSendOk l x)] : D)) [] ⟨x_From, x_To, x_Things, x_At⟩, (fun (l : List THand) (x : TParcel) => [((0, 1), .arr false 5 yTHand (ML encTHand (mSend l x)))]) [] ⟨x_From, x_To, x_Things, x_At⟩) :=
  mkCon_fn (fun x y h _ => c9_inj x y h) (([], ⟨x_From, x_To, x_Things, x_At⟩) : (List THand) × TParcel) (by simp [nz, nz1, ML_nil, encLI, encLTHand, encTParcel]) rfl
theorem c9_pc (l : List THand) (x : TParcel) (hpre : l.length ≤ 1073741000 ∧ smP x) : PCo Try.prog 9 [encLTHand l, encTParcel x] (Tab.of []) (.tup [.own (0, 1) 5 0 (mSend l x).length, dB (mSendOk l x)]) (Tab.of [((0, 1), .arr false 5 yTHand (ML encTHand (mSend l x)))]) := by
  refine pco_of_run [1000025, 1000024] (E := ⟨[c22, c23, c24, c25, c26], []⟩) (m := false) (base := 0) (Env.ok_cons c22_ok (Env.ok_cons c23_ok (Env.ok_cons c24_ok (Env.ok_cons c25_ok (Env.ok_cons c26_ok Env.ok_nil))))) G_ok mix 300 6 Try.func9 (by kernel_rfl) rfl (by kernel_rfl) (by kernel_rfl) rfl ?_
  obtain ⟨hl, hx⟩ := hpre
  simp at hx
  cases hc : mIsParcel x with
  | false =>
    have hn := mSend_no (l := l) (x := x) fun h => by rw [h.1] at hc; cases hc
    simp [Try.f9, hc, hn.1, hn.2, hx]
    omega
  | true =>
    have hpl := parcel_len hc
    have hall := inH_all (l := l) (x := x)
    cases ha : hasAll (some (mInHouse l x.From)) (some x.Things) with
    | false =>
      have hn := mSend_no (l := l) (x := x) fun h => by rw [hall.2 h.2.1] at ha; cases ha
      have hb := mInHouse_len l x.From
      simp [Try.f9, hc, ha, hn.1, hn.2, hx]
      omega
    | true =>
      have hin := hall.1 ha
      have hb := mInHouse_len l x.From
      simp [Try.f9, hc, ha, hx]
      refine ⟨by omega, by omega, ?_⟩
      refine loop_inv (fun p : Nat => p ≤ x.Things.length ∧ okS l x p) (fun p => [(0, encLTHand l), (3, .ptr (0, 1) 0), (6, .own (1, 1) 5 0 (sT l x p).length), (30, encLI x.Things), (31, dI x.Things.length), (32, dI p)]) (fun p => [((0, 1), .box (encTParcel x)), ((1, 1), .arr false 5 yTHand (ML encTHand (sT l x p)))]) 2 (fun p => x.Things.length - p) 0 400 (by simp) (by simp [okS]) (by simp [sT]) ?_
      intro p ⟨hp, hok⟩
      have hlen := sT_len l x p
      simp
      have hk : (⟨x.Things[p]?.getD 0, 2, x.To, x.At, 0⟩ : THand) = pHand x p := rfl
      rw [hk]
      refine ⟨fun hlt => ⟨hlt, by omega, fun hf => ?_, fun ht => ?_⟩, fun hge => ?_⟩
      · have hn := mSend_no (l := l) (x := x) fun h => by
          have := h.2.2 p hlt
          rw [okI, hf] at this; cases this
        rw [hn.1, hn.2]
        exact ⟨by omega, ⟨rfl, rfl⟩, rfl⟩
      · refine ⟨by omega, Again.mk (p + 1) ⟨by omega, okS_succ.2 ⟨hok, ht⟩⟩ (by simp [sT, hk]) (by first | omega | (simp; omega))⟩
      · have : p = x.Things.length := by omega
        subst this
        have hy := mSend_yes (l := l) (x := x) ⟨hc, hin, hok⟩
        rw [hy.1, hy.2]
        simp
theorem c9_ok : c9.ok Try.prog := mkCon_ok fun ⟨l, x⟩ hpre => c9_pc l x hpre
/-- loop.example/g03007/spec.SendParcel -/
noncomputable def c6 : Con := mkCon 6 false (α := (List THand) × TParcel) (fun x => (fun (l : List THand) (x : TParcel) => [encLTHand l, encTParcel x]) x.1 x.2) (fun _ => []) (fun x => (fun (l : List THand) (x : TParcel) => l.length ≤ 1073741000 ∧ smP x) x.1 x.2) (fun x => (fun (l : List THand) (x : TParcel) => (.tup [.own (0, 1) 5 0 (mSend l x).length, dB (mSendOk l x)] : D)) x.1 x.2) (fun x => (fun (l : List THand) (x : TParcel) => [((0, 1), .arr false 5 yTHand (ML encTHand (mSend l x)))]) x.1 x.2)
@[simp] theorem c6_f : c6.f = 6 := rfl
@[simp] theorem c6_own : c6.own = false := rfl
theorem c6_inj : ∀ u_ v_ : (List THand) × TParcel, ((fun x => (fun (l : List THand) (x : TParcel) => [encLTHand l, encTParcel x]) x.1 x.2) u_).map nz = ((fun x => (fun (l : List THand) (x : TParcel) => [encLTHand l, encTParcel x]) x.1 x.2) v_).map nz → u_ = v_ := by
  intro u_ v_ h
  obtain ⟨l, ⟨x_From, x_To, x_Things, x_At⟩⟩ := u_
  obtain ⟨l', ⟨x_From', x_To', x_Things', x_At'⟩⟩ := v_
  simp [nz_lit, nz1_lit, nz_agg, nz_sl, nz1_sl, encLI, encLTHand, encTParcel] at h
  first | (simp [h]; done) | (obtain ⟨⟩ := h; simp_all; done) | simp_all
@[simp] theorem c6_fn (l : List THand) (x_From : Int) (x_To : Int) (x_Things : List Int) (x_At : Int) : c6.fn [.sl false 5 yTHand (ML encTHand l), .agg [.lit (.int .i64 x_From), .lit (.int .i64 x_To), .sl false 1 (.lit (.int .i64 0)) (ML dI x_Things), .lit (.int .i64 x_At)]] [] = some ((fun (l : List THand) (x : TParcel) => l.length ≤ 1073741000 ∧ smP x) l ⟨x_From, x_To, x_Things, x_At⟩, (fun (l : List THand) (x : TParcel) => (.tup [.own (0, 1) 5 0 (mSend l x).length, dB (mSendOk l x)] : D)) l ⟨x_From, x_To, x_Things, x_At⟩, (fun (l : List THand) (x : TParcel) => [((0, 1), .arr false 5 yTHand (ML encTHand (mSend l x)))]) l ⟨x_From, x_To, x_Things, x_At⟩) :=
  mkCon_fn (fun x y h _ => c6_inj x y h) ((l, ⟨x_From, x_To, x_Things, x_At⟩) : (List THand) × TParcel) (by simp [nz, nz1, ML_nil, encLI, encLTHand, encTParcel]) rfl
@[simp] theorem c6_fn1 (s_l : Nat) (z_l : D) (x_From : Int) (x_To : Int) (x_Things : List Int) (x_At : Int) : c6.fn [.sl false s_l z_l [], .agg [.lit (.int .i64 x_From), .lit (.int .i64 x_To), .sl false 1 (.lit (.int .i64 0)) (ML dI x_Things), .lit (.int .i64 x_At)]] [] = some ((fun (l : List THand) (x : TParcel) => l.length ≤ 1073741000 ∧ smP x) [] ⟨x_From, x_To, x_Things, x_At⟩, (fun (l : List THand) (x : TParcel) => (.tup [.own (0, 1) 5 0 (mSend l x).length, dB (mSendOk l x)] : D)) [] ⟨x_From, x_To, x_Things, x_At⟩, (fun (l : List THand) (x : TParcel) => [((0, 1), .arr false 5 yTHand (ML encTHand (mSend l x)))]) [] ⟨x_From, x_To, x_Things, x_At⟩) :=
  mkCon_fn (fun x y h _ => c6_inj x y h) (([], ⟨x_From, x_To, x_Things, x_At⟩) : (List THand) × TParcel) (by simp [nz, nz1, ML_nil, encLI, encLTHand, encTParcel]) rfl
theorem c6_pc (l : List THand) (x : TParcel) (hpre : l.length ≤ 1073741000 ∧ smP x) : PCo Try.prog 6 [encLTHand l, encTParcel x] (Tab.of []) (.tup [.own (0, 1) 5 0 (mSend l x).length, dB (mSendOk l x)]) (Tab.of [((0, 1), .arr false 5 yTHand (ML encTHand (mSend l x)))]) := by
  refine pco_of_run [] (E := ⟨[c16, c17, c18, c19], []⟩) (m := false) (base := 0) (Env.ok_cons c16_ok (Env.ok_cons c17_ok (Env.ok_cons c18_ok (Env.ok_cons c19_ok Env.ok_nil)))) G_ok mix 300 6 Try.func6 (by kernel_rfl) rfl (by kernel_rfl) (by kernel_rfl) rfl ?_
  obtain ⟨hl, hx⟩ := hpre
  simp at hx
  cases hc : mIsParcel x with
  | false =>
    have hn := mSend_no (l := l) (x := x) fun h => by rw [h.1] at hc; cases hc
    simp [Try.f6, hc, hn.1, hn.2, hx]
    omega
  | true =>
    have hpl := parcel_len hc
    have hb := mInHouse_len l x.From
    simp [Try.f6, hc, hx]
    refine ⟨by omega, by omega, ?_⟩
    refine loop_inv (fun p : Nat => p ≤ x.Things.length ∧ okS l x p ∧ inH l x p) (fun p => [(0, encLTHand l), (3, .ptr (0, 1) 0), (6, .own (1, 1) 5 0 (sT l x p).length), (7, encLI (mInHouse l x.From)), (8, dI p)]) (fun p => [((0, 1), .box (encTParcel x)), ((1, 1), .arr false 5 yTHand (ML encTHand (sT l x p)))]) 2 (fun p => x.Things.length - p) 0 400 (by simp) (by simp [okS, inH]) (by simp [sT]) ?_
    intro p ⟨hp, hok, hinp⟩
    have hlen := sT_len l x p
    simp
    have hk : (⟨x.Things[p]?.getD 0, 2, x.To, x.At, 0⟩ : THand) = pHand x p := rfl
    rw [hk]
    refine ⟨fun hlt => ⟨⟨hlt, by omega⟩, ⟨fun _ => hlt, fun _ => by omega⟩, fun hf => ?_, fun h1 h2 => ?_⟩, fun hge => ?_⟩
    · have hn := mSend_no (l := l) (x := x) fun h => by
        rcases hf with hf | hf
        · have := h.2.2 p hlt
          rw [okI, hf] at this; cases this
        · exact hf (h.2.1 p hlt)
      rw [hn.1, hn.2]
      exact ⟨by omega, ⟨rfl, rfl⟩, rfl⟩
    · refine ⟨by omega, Again.mk (p + 1) ⟨by omega, okS_succ.2 ⟨hok, h1⟩, inH_succ.2 ⟨hinp, h2⟩⟩ (by simp [sT, hk]) (by first | omega | (simp; omega))⟩
    · have : p = x.Things.length := by omega
      subst this
      have hy := mSend_yes (l := l) (x := x) ⟨hc, hinp, hok⟩
      rw [hy.1, hy.2]
      simp
theorem c6_ok : c6.ok Try.prog := mkCon_ok fun ⟨l, x⟩ hpre => c6_pc l x hpre
/-- loop.example/g03007/laws.toParcel -/
noncomputable def c8f : Con := mkCon 8 false (α := TParcel) (fun x => (fun (r : TParcel) => [encTParcel r]) x) (fun _ => []) (fun x => (fun (r : TParcel) => smP r) x) (fun x => (fun (r : TParcel) => (.agg [dI r.From, dI r.To, .own (0, 1) 1 0 r.Things.length, dI r.At] : D)) x) (fun x => (fun (r : TParcel) => [((0, 1), .arr false 1 (dI 0) (ML dI r.Things))]) x)
@[simp] theorem c8f_f : c8f.f = 8 := rfl
@[simp] theorem c8f_own : c8f.own = false := rfl
theorem c8f_inj : ∀ u_ v_ : TParcel, ((fun x => (fun (r : TParcel) => [encTParcel r]) x) u_).map nz = ((fun x => (fun (r : TParcel) => [encTParcel r]) x) v_).map nz → u_ = v_ := by
  intro u_ v_ h
  obtain ⟨r_From, r_To, r_Things, r_At⟩ := u_
  obtain ⟨r_From', r_To', r_Things', r_At'⟩ := v_
  simp [nz_lit, nz1_lit, nz_agg, nz_sl, nz1_sl, encLI, encTParcel] at h
  first | (simp [h]; done) | (obtain ⟨⟩ := h; simp_all; done) | simp_all
@[simp] theorem c8f_fn (r_From : Int) (r_To : Int) (r_Things : List Int) (r_At : Int) : c8f.fn [.agg [.lit (.int .i64 r_From), .lit (.int .i64 r_To), .sl false 1 (.lit (.int .i64 0)) (ML dI r_Things), .lit (.int .i64 r_At)]] [] = some ((fun (r : TParcel) => smP r) ⟨r_From, r_To, r_Things, r_At⟩, (fun (r : TParcel) => (.agg [dI r.From, dI r.To, .own (0, 1) 1 0 r.Things.length, dI r.At] : D)) ⟨r_From, r_To, r_Things, r_At⟩, (fun (r : TParcel) => [((0, 1), .arr false 1 (dI 0) (ML dI r.Things))]) ⟨r_From, r_To, r_Things, r_At⟩) :=
  mkCon_fn (fun x y h _ => c8f_inj x y h) (⟨r_From, r_To, r_Things, r_At⟩ : TParcel) (by simp [nz, nz1, ML_nil, encLI, encTParcel]) rfl
theorem c8f_pc (r : TParcel) (hpre : smP r) : PCo Try.prog 8 [encTParcel r] (Tab.of []) (.agg [dI r.From, dI r.To, .own (0, 1) 1 0 r.Things.length, dI r.At]) (Tab.of [((0, 1), .arr false 1 (dI 0) (ML dI r.Things))]) := by
  obtain ⟨r_From, r_To, r_Things, r_At⟩ := r
  refine pco_of_run [] (E := ⟨[c21], []⟩) (m := false) (base := 0) (Env.ok_cons c21_ok Env.ok_nil) G_ok mix 300 6 Try.func8 (by kernel_rfl) rfl (by kernel_rfl) (by kernel_rfl) rfl ?_
  simp [Try.f8]
  simp at hpre
  exact hpre
theorem c8f_ok : c8f.ok Try.prog := mkCon_ok fun r hpre => c8f_pc r hpre
/-- loop.example/g03007/laws.markParcel -/
noncomputable def c13 : Con := mkCon 13 true (α := TParcel × Int) (fun x => (fun (r : TParcel) (k : Int) => ([.agg [dI r.From, dI r.To, .own (0, 0) 1 0 r.Things.length, dI r.At], dI k] : List D)) x.1 x.2) (fun x => (fun (r : TParcel) (k : Int) => ([((0, 0), .arr false 1 (dI 0) (ML dI r.Things))] : List (Nm × OO))) x.1 x.2) (fun x => (fun (r : TParcel) (k : Int) => r.Things.length ≤ 1099511627776 ∧ 0 ≤ k ∧ k ≤ 1099511627776) x.1 x.2) (fun x => (fun (r : TParcel) (k : Int) => (dI (k + r.Things.length) : D)) x.1 x.2) (fun x => (fun (r : TParcel) (k : Int) => ([((0, 0), .arr false 1 (dI 0) (ML dI (mkL mk_I 1 k r.Things.length)))] : List (Nm × OO))) x.1 x.2)
@[simp] theorem c13_f : c13.f = 13 := rfl
@[simp] theorem c13_own : c13.own = true := rfl
theorem c13_inj : ∀ u_ v_ : TParcel × Int, ((fun x => (fun (r : TParcel) (k : Int) => ([.agg [dI r.From, dI r.To, .own (0, 0) 1 0 r.Things.length, dI r.At], dI k] : List D)) x.1 x.2) u_).map nz = ((fun x => (fun (r : TParcel) (k : Int) => ([.agg [dI r.From, dI r.To, .own (0, 0) 1 0 r.Things.length, dI r.At], dI k] : List D)) x.1 x.2) v_).map nz → (fun x => (fun (r : TParcel) (k : Int) => ([((0, 0), .arr false 1 (dI 0) (ML dI r.Things))] : List (Nm × OO))) x.1 x.2) u_ = (fun x => (fun (r : TParcel) (k : Int) => ([((0, 0), .arr false 1 (dI 0) (ML dI r.Things))] : List (Nm × OO))) x.1 x.2) v_ → u_ = v_ := by
  intro u_ v_ h h2_
  obtain ⟨⟨r_From, r_To, r_Things, r_At⟩, k⟩ := u_
  obtain ⟨⟨r_From', r_To', r_Things', r_At'⟩, k'⟩ := v_
  simp [nz_lit, nz1_lit, nz_agg, nz_sl, nz1_sl, nz_sx, nz_el, nz1_el, nz_own, nz1_own, nz_ptr, nz_fn, nz_iface] at h h2_
  first | (simp [h, h2_]; done) | (obtain ⟨h3_, h4_⟩ := List.append_inj h2_ h.1; simp_all; done) | simp_all | grind
@[simp] theorem c13_fn (r_From : Int) (r_To : Int) (r_Things : List Int) (r_At : Int) (k : Int) : c13.fn ([.agg [dI (⟨r_From, r_To, r_Things, r_At⟩ : TParcel).From, dI (⟨r_From, r_To, r_Things, r_At⟩ : TParcel).To, .own (0, 0) 1 0 (⟨r_From, r_To, r_Things, r_At⟩ : TParcel).Things.length, dI (⟨r_From, r_To, r_Things, r_At⟩ : TParcel).At], dI k]) ([((0, 0), .arr false 1 (dI 0) (ML dI (⟨r_From, r_To, r_Things, r_At⟩ : TParcel).Things))]) = some ((⟨r_From, r_To, r_Things, r_At⟩ : TParcel).Things.length ≤ 1099511627776 ∧ 0 ≤ k ∧ k ≤ 1099511627776, dI (k + (⟨r_From, r_To, r_Things, r_At⟩ : TParcel).Things.length), [((0, 0), .arr false 1 (dI 0) (ML dI (mkL mk_I 1 k (⟨r_From, r_To, r_Things, r_At⟩ : TParcel).Things.length)))]) :=
  mkCon_fn c13_inj ((⟨r_From, r_To, r_Things, r_At⟩, k) : TParcel × Int) rfl rfl
theorem c13_pc (r : TParcel) (k : Int) (hpre : r.Things.length ≤ 1099511627776 ∧ 0 ≤ k ∧ k ≤ 1099511627776) : PCo Try.prog 13 ([.agg [dI r.From, dI r.To, .own (0, 0) 1 0 r.Things.length, dI r.At], dI k]) (Tab.of ([((0, 0), .arr false 1 (dI 0) (ML dI r.Things))])) (dI (k + r.Things.length)) (Tab.of ([((0, 0), .arr false 1 (dI 0) (ML dI (mkL mk_I 1 k r.Things.length)))])) := by
  refine pco_of_run [] (E := ⟨[c29], []⟩) (m := false) (base := 0) (Env.ok_cons c29_ok Env.ok_nil) G_ok mix 300 6 Try.func13 (by kernel_rfl) rfl (by kernel_rfl) (by kernel_rfl) rfl ?_
  simp [Try.f13]
  obtain ⟨h1, h3, h4⟩ := hpre
  repeat' (first | omega | assumption | refine And.intro ?_ ?_ | intro _)
theorem c13_ok : c13.ok Try.prog := mkCon_ok fun ⟨r, k⟩ hpre => c13_pc r k hpre
@[simp] theorem markP_fn {i kd t k : Int} {c : List Int} : c13.fn [.agg [.lit (.int .i64 i), .lit (.int .i64 kd), .own (0, 0) 1 0 c.length, .lit (.int .i64 t)], .lit (.int .i64 k)] [((0, 0), .arr false 1 (.lit (.int .i64 0)) (ML dI c))] = some (c.length ≤ 1099511627776 ∧ 0 ≤ k ∧ k ≤ 1099511627776, dI (k + c.length), [((0, 0), .arr false 1 (dI 0) (ML dI (mkL mk_I 1 k c.length)))]) := c13_fn i kd c t k
theorem mSend_len (l : List THand) (x : TParcel) : (mSend l x).length ≤ l.length + x.Things.length := by
  rw [mSend]; split
  · exact sT_len ..
  · omega
/-- loop.example/g03007/laws.FnExactSendParcel -/
theorem law3 (l : List THand) (wl : wfLTHand l) (x : TParcel) (wx : wfTParcel x) : PCo Try.prog 3 [encLTHand l, encTParcel x] (Tab.of []) (dB true) (Tab.of []) := by
  obtain ⟨x_From, x_To, x_Things, x_At⟩ := x
  refine pco_of_run [1008, 1016, 1031, 2000006, 2000009, 2000011] (E := ⟨[c4, c5, c6, c7, c8f, c9, c10, c11, c12, c13, c14], []⟩) (m := false) (base := 0) (Env.ok_cons c4_ok (Env.ok_cons c5_ok (Env.ok_cons c6_ok (Env.ok_cons c7_ok (Env.ok_cons c8f_ok (Env.ok_cons c9_ok (Env.ok_cons c10_ok (Env.ok_cons c11_ok (Env.ok_cons c12_ok (Env.ok_cons c13_ok (Env.ok_cons c14_ok Env.ok_nil))))))))))) G_ok mix 400 6 Try.func3 (by kernel_rfl) rfl (by kernel_rfl) (by kernel_rfl) rfl ?_
  simp (config := {maxSteps := 3000000}) [Try.f3]
  have h1 : l.length ≤ maxLen := wl.1
  have h2 := wfP_len wx
  simp at h2
  have hb := mSend_len l ⟨x_From, x_To, x_Things, x_At⟩
  simp at hb
  refine ⟨h1, fun h => ?_⟩
  have hs : l.length ≤ 1048576 := by split at h <;> omega
  have e : (if (1048576 : Int) - (l.length : Int) < 0 then (-1 : Int) else (1048576 : Int) - (l.length : Int)) = (1048576 : Int) - (l.length : Int) := by rw [if_neg (by omega)]
  rw [e] at h ⊢
  refine ⟨⟨h2, h, by omega⟩, fun h3 => ?_⟩
  have h4 := szP_len h3
  simp at h4
  repeat' (first | omega | assumption | refine And.intro ?_ ?_ | intro _)
theorem law3_pc (D0 : D) (h0 : Sh G 9 22 D0) (D1 : D) (h1 : Sh G 9 25 D1) : PC Try.prog 3 [D0, D1] (dB true) [] := by
  obtain ⟨l, rfl, wl⟩ := sh22 (n := 6) h0
  obtain ⟨x, rfl, wx⟩ := sh25 (n := 6) h1
  exact law3 l wl x wx

end Go.Proofs.Ytlnllkffifeggaa
