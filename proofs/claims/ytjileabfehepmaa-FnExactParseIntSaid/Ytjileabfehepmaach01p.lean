/- Contracts of the functions that the laws run. -/
import Derived.Test.Ytjileabfehepmaach01a
import Derived.Lib.ItoaMem
import Derived.Test.YtjileabfehepmaaEngB
namespace Go.Proofs.Ytjileabfehepmaa
open Go Go.Eng
set_option linter.unusedSimpArgs false
set_option linter.unusedVariables false
set_option maxRecDepth 10000
set_option maxHeartbeats 1000000
def mInt (n : Int) : ByteArray := ⟨(Go.Lib.itoa n).toArray⟩
theorem dec_len {u : Nat} (h : u < 18446744073709551616) : 1 ≤ (Go.Lib.decDigits u).length ∧ (Go.Lib.decDigits u).length ≤ 20 := by
  rw [Go.Lib.decDigits_length]
  by_cases h0 : u = 0
  · subst h0; rw [Go.Lib.nDigits_small (by omega)]; omega
  · have := Go.Lib.numDigits_eq u (by omega) h
    have h2 := Go.Lib.nDigits_pos u
    split at this <;> omega
theorem bs_app (a b : List UInt8) : ((⟨a.toArray⟩ : ByteArray) ++ (⟨b.toArray⟩ : ByteArray)) = ⟨(a ++ b).toArray⟩ := by
  apply ByteArray.ext
  simp [ByteArray.data_append]
theorem bs_size (a : List UInt8) : (⟨a.toArray⟩ : ByteArray).size = a.length := by simp [ByteArray.size]
theorem mInt_size {n : Int} (h : -9223372036854775808 ≤ n ∧ n ≤ 9223372036854775807) : 1 ≤ (mInt n).size ∧ (mInt n).size ≤ 21 := by
  rw [mInt, bs_size, Go.Lib.itoa]
  split
  · have := dec_len (u := n.natAbs) (by omega); simp; omega
  · have := dec_len (u := n.toNat) (by omega); omega
def restD (x : Int) : List UInt8 := if x = 0 then [] else Go.Lib.decDigits x.natAbs
theorem restD_step {x : Int} (h : x ≠ 0) : restD x = restD (x.tdiv 10) ++ [UInt8.ofNat (48 + x.natAbs % 10)] := by
  have e1 : (x.tdiv 10).natAbs = x.natAbs / 10 := Int.natAbs_tdiv x 10
  have e2 : (x.tdiv 10 = 0) ↔ x.natAbs < 10 := by
    rw [← Int.natAbs_eq_zero, e1]; omega
  rw [restD, if_neg h, restD, e1]
  by_cases h2 : x.natAbs < 10
  · rw [if_pos (e2.2 h2), Go.Lib.decDigits, dif_pos h2, Nat.mod_eq_of_lt h2]; rfl
  · rw [if_neg (fun e => h2 (e2.1 e)), Go.Lib.decDigits, dif_neg h2]
theorem wrap_digit {d : Int} (h : 0 ≤ d ∧ d < 10) : IntKind.u8.wrap (48 + d) = 48 + d := by
  simp [IntKind.wrap, IntKind.bits, IntKind.signed]; omega
theorem tmod_abs (x : Int) : (x.tmod 10 < 0 → -x.tmod 10 = ((x.natAbs % 10 : Nat) : Int)) ∧ (0 ≤ x.tmod 10 → x.tmod 10 = ((x.natAbs % 10 : Nat) : Int)) := by
  have h := Int.natAbs_tmod x 10
  have e : (10 : Int).natAbs = 10 := rfl
  rw [e] at h
  refine ⟨fun h2 => ?_, fun h2 => ?_⟩ <;> omega
/-- loop.example/g03007/spec.FormatInt -/
noncomputable def c7 : Con := mkCon 7 false (α := Int) (fun x => (fun (n : Int) => [dI n]) x) (fun _ => []) (fun x => (fun (n : Int) => -9223372036854775808 ≤ n ∧ n ≤ 9223372036854775807) x) (fun x => (fun (n : Int) => (dS (mInt n) : D)) x) (fun x => (fun (n : Int) => []) x)
@[simp] theorem c7_f : c7.f = 7 := rfl
@[simp] theorem c7_own : c7.own = false := rfl
theorem c7_inj : ∀ u_ v_ : Int, ((fun x => (fun (n : Int) => [dI n]) x) u_).map nz = ((fun x => (fun (n : Int) => [dI n]) x) v_).map nz → u_ = v_ := by
  intro u_ v_ h
  obtain n := u_
  obtain n' := v_
  simp [nz_lit, nz1_lit, nz_agg, nz_sl, nz1_sl] at h
  first | (simp [h]; done) | (obtain ⟨⟩ := h; simp_all; done) | simp_all
@[simp] theorem c7_fn (n : Int) : c7.fn [.lit (.int .i64 n)] [] = some ((fun (n : Int) => -9223372036854775808 ≤ n ∧ n ≤ 9223372036854775807) n, (fun (n : Int) => (dS (mInt n) : D)) n, (fun (n : Int) => []) n) :=
  mkCon_fn (fun x y h _ => c7_inj x y h) (n : Int) (by simp [nz, nz1, ML_nil]) rfl
theorem c7_pc (n : Int) (hpre : -9223372036854775808 ≤ n ∧ n ≤ 9223372036854775807) : PCo Try.prog 7 [dI n] (Tab.of []) (dS (mInt n)) (Tab.of []) := by
  refine pco_of_run [] (E := ⟨[], []⟩) (m := false) (base := 0) Env.ok_nil G_ok mix 300 6 Try.func7 (by kernel_rfl) rfl (by kernel_rfl) (by kernel_rfl) rfl ?_
  by_cases h0 : n = 0
  · subst h0
    have e : mInt 0 = ⟨#[48]⟩ := by simp [mInt, Go.Lib.itoa, Go.Lib.decDigits]
    simp [Try.f7, e]
  simp [Try.f7, h0]
  refine loop_inv (fun q : Int × List UInt8 => q.1.natAbs ≤ n.natAbs ∧ Go.Lib.decDigits n.natAbs = restD q.1 ++ q.2) (fun q => [(0, dI n), (3, dS ⟨q.2.toArray⟩), (4, dI q.1)]) (fun _ => []) 1 (fun q => q.1.natAbs) (n, []) 400 (by simp) (by simp [restD, h0]) (by simp) ?_
  intro ⟨x, s⟩ ⟨hx, he⟩
  simp only at hx he
  have hl := congrArg List.length he
  have hn := dec_len (u := n.natAbs) (by omega)
  rw [List.length_append] at hl
  have hd := tmod_abs x
  have hq : (x.tdiv 10).natAbs = x.natAbs / 10 := Int.natAbs_tdiv x 10
  have hm : x.natAbs % 10 < 10 := Nat.mod_lt _ (by omega)
  have hap : ∀ c : UInt8, (({ data := #[c] } : ByteArray) ++ { data := s.toArray }) = ⟨(c :: s).toArray⟩ := fun c => bs_app [c] s
  have hz : ∀ c : UInt8, ({ data := #[c] } : ByteArray).size = 1 := fun c => rfl
  have hstep : ∀ d : Int, d = ((x.natAbs % 10 : Nat) : Int) → UInt8.ofNat (IntKind.u8.wrap (48 + d)).toNat = UInt8.ofNat (48 + x.natAbs % 10) := fun d e => by
    rw [wrap_digit (by omega), e]; congr 1
  simp [hap, hz, bs_size]
  refine ⟨fun hx0 => ?_, fun hx0 => ?_⟩
  · subst hx0
    have hs : s = Go.Lib.decDigits n.natAbs := by simpa [restD] using he.symm
    subst hs
    refine ⟨fun hn0 => ⟨by omega, ?_⟩, fun hn0 => ?_⟩
    · simp [mInt, Go.Lib.itoa, hn0]
    · have : ¬ n < 0 := by omega
      have e2 : n.natAbs = n.toNat := by omega
      simp [mInt, Go.Lib.itoa, this, e2]
  · have hr := restD_step hx0
    have hlt : (x.tdiv 10).natAbs < x.natAbs := by rw [hq]; omega
    refine ⟨fun h1 => ?_, fun h1 => ?_⟩
    · have hc := hstep _ (hd.1 h1)
      have hdd := hd.1 h1
      rw [hc]
      generalize UInt8.ofNat (48 + x.natAbs % 10) = C at hr
      repeat' (first | omega | refine And.intro ?_ ?_ | intro _)
      exact Again.mk (x.tdiv 10, C :: s) ⟨by simp only; omega, by simp only; rw [he, hr]; simp⟩ (by simp) (by simp only; omega)
    · have hc := hstep _ (hd.2 h1)
      have hdd := hd.2 h1
      rw [hc]
      generalize UInt8.ofNat (48 + x.natAbs % 10) = C at hr
      repeat' (first | omega | refine And.intro ?_ ?_ | intro _)
      exact Again.mk (x.tdiv 10, C :: s) ⟨by simp only; omega, by simp only; rw [he, hr]; simp⟩ (by simp) (by simp only; omega)
theorem c7_ok : c7.ok Try.prog := mkCon_ok fun n hpre => c7_pc n hpre
def bt (s : ByteArray) (i : Nat) : Nat := (s.get! i).toNat
def dOk (s : ByteArray) (i : Nat) : Prop := 48 ≤ bt s i ∧ bt s i ≤ 57
def valP (s : ByteArray) : Nat → Int
  | 0 => 0
  | p + 1 => 10 * valP s p + ((bt s p : Int) - 48)
def allP (s : ByteArray) (n : Nat) : Prop := ∀ i, i < n → dOk s i
theorem allP_succ {s : ByteArray} {n : Nat} : allP s (n + 1) ↔ allP s n ∧ dOk s n := by
  refine ⟨fun h => ⟨fun i hi => h i (by omega), h n (by omega)⟩, fun h i hi => ?_⟩
  by_cases e : i = n
  · subst e; exact h.2
  · exact h.1 i (by omega)
theorem valP_pos {s : ByteArray} : ∀ {p : Nat}, allP s p → 0 ≤ valP s p
  | 0, _ => by simp [valP]
  | p + 1, h => by
    have h1 := allP_succ.1 h
    have := valP_pos h1.1
    have h2 := h1.2
    simp only [dOk] at h2
    simp only [valP]; omega
theorem valP_step {s : ByteArray} {p : Nat} (h : allP s (p + 1)) : valP s p ≤ valP s (p + 1) := by
  have h1 := allP_succ.1 h
  have := valP_pos h1.1
  have h2 := h1.2
  simp only [dOk] at h2
  simp only [valP]; omega
theorem valP_le {s : ByteArray} {p : Nat} : ∀ {n : Nat}, p ≤ n → allP s n → valP s p ≤ valP s n
  | 0, h, _ => by have : p = 0 := by omega
                  subst this; exact Int.le_refl _
  | n + 1, h, ha => by
    by_cases e : p = n + 1
    · subst e; exact Int.le_refl _
    · exact Int.le_trans (valP_le (n := n) (by omega) (allP_succ.1 ha).1) (valP_step ha)
theorem valP_big {s : ByteArray} (h0 : bt s 0 ≠ 48) : ∀ {p : Nat}, allP s (p + 1) → (10 : Int) ^ p ≤ valP s (p + 1)
  | 0, h => by
    have := h 0 (by omega)
    simp only [dOk] at this
    simp only [valP]; omega
  | p + 1, h => by
    have ih := valP_big h0 (p := p) (allP_succ.1 h).1
    have h2 := (allP_succ.1 h).2
    simp only [dOk] at h2
    rw [Int.pow_succ, valP]; omega
theorem valP_small {s : ByteArray} : ∀ {p : Nat}, allP s p → valP s p < (10 : Int) ^ p
  | 0, _ => by simp [valP]
  | p + 1, h => by
    have ih := valP_small (p := p) (allP_succ.1 h).1
    have h2 := (allP_succ.1 h).2
    simp only [dOk] at h2
    rw [Int.pow_succ, valP]; omega
def okNum (s : ByteArray) : Prop := 1 ≤ s.size ∧ allP s s.size ∧ ¬ (bt s 0 = 48 ∧ 1 < s.size) ∧ valP s s.size ≤ 1000000000000
noncomputable instance (s : ByteArray) : Decidable (okNum s) := Classical.propDecidable _
theorem okNum_size {s : ByteArray} (h : okNum s) : s.size ≤ 13 := by
  obtain ⟨h1, h2, h3, h4⟩ := h
  refine Nat.le_of_not_lt fun hs => ?_
  have h0 : bt s 0 ≠ 48 := fun e => h3 ⟨e, by omega⟩
  have h5 : (10 : Int) ^ 13 ≤ valP s 14 := valP_big h0 (p := 13) (fun i hi => h2 i (by omega))
  have h6 := valP_le (s := s) (p := 14) (n := s.size) (by omega) h2
  have h7 : (10 : Int) ^ 13 = 10000000000000 := by decide
  omega
theorem bs_len (s : ByteArray) : s.data.toList.length = s.size := rfl
theorem ten_pos : ∀ p : Nat, (1 : Int) ≤ 10 ^ p
  | 0 => by simp
  | p + 1 => by have := ten_pos p; rw [Int.pow_succ]; omega
theorem bt_at {s : ByteArray} {i : Nat} (h : i < s.size) : ∃ h' : i < s.data.toList.length, bt s i = (s.data.toList[i]).toNat := by
  have h2 : i < s.data.size := h
  refine ⟨h, ?_⟩
  show (s.data[i]!).toNat = _
  rw [getElem!_pos s.data i h2]; rfl
theorem dec_take {s : ByteArray} : ∀ {p : Nat}, p + 1 ≤ s.size → allP s (p + 1) → (bt s 0 = 48 → p = 0) → Go.Lib.decDigits (valP s (p + 1)).toNat = s.data.toList.take (p + 1)
  | 0, hp, ha, _ => by
    obtain ⟨h', e⟩ := bt_at (s := s) (i := 0) (by omega)
    have h2 := ha 0 (by omega)
    simp only [dOk] at h2
    have e2 : (valP s 1).toNat = bt s 0 - 48 := by simp only [valP]; omega
    rw [e2, Go.Lib.decDigits_one (by omega)]
    have e3 : 48 + (bt s 0 - 48) = bt s 0 := by omega
    rw [e3, e, List.take_succ_eq_append_getElem h']
    simp
  | p + 1, hp, ha, h0 => by
    have h1 := allP_succ.1 ha
    have hn : bt s 0 ≠ 48 := fun e => by have := h0 e; omega
    have ih := dec_take (p := p) (by omega) h1.1 (fun e => absurd e hn)
    have h2 := h1.2
    simp only [dOk] at h2
    have hb := valP_big hn h1.1
    have hb1 := ten_pos p
    obtain ⟨h', e⟩ := bt_at (s := s) (i := p + 1) (by omega)
    have e1 : (valP s (p + 1 + 1)).toNat = 10 * (valP s (p + 1)).toNat + (bt s (p + 1) - 48) := by simp only [valP] at hb hb1 ⊢; omega
    rw [e1, Go.Lib.decDigits, dif_neg (by omega)]
    have e2 : (10 * (valP s (p + 1)).toNat + (bt s (p + 1) - 48)) / 10 = (valP s (p + 1)).toNat := by omega
    have e3 : (10 * (valP s (p + 1)).toNat + (bt s (p + 1) - 48)) % 10 = bt s (p + 1) - 48 := by omega
    have e4 : 48 + (bt s (p + 1) - 48) = bt s (p + 1) := by omega
    rw [e2, e3, e4, ih, e, List.take_succ_eq_append_getElem h']
    simp
theorem dec_head (u : Nat) (h : 1 ≤ u) : ∃ x t, Go.Lib.decDigits u = x :: t ∧ x ≠ 48 := by
  induction u using Nat.strongRecOn with
  | ind u ih =>
    by_cases hu : u < 10
    · rw [Go.Lib.decDigits_one hu]
      refine ⟨_, [], rfl, fun e => ?_⟩
      have := congrArg UInt8.toNat e
      simp at this; omega
    · obtain ⟨x, t, e, hx⟩ := ih (u / 10) (by omega) (by omega)
      rw [Go.Lib.decDigits, dif_neg hu, e]
      exact ⟨x, _, rfl, hx⟩
theorem num_iff {s : ByteArray} (h1 : 1 ≤ s.size) (ha : allP s s.size) (hv : valP s s.size ≤ 9223372036854775807) : mInt (valP s s.size) = s ↔ ¬ (bt s 0 = 48 ∧ 1 < s.size) := by
  have hp := valP_pos ha
  have e : mInt (valP s s.size) = ⟨(Go.Lib.decDigits (valP s s.size).toNat).toArray⟩ := by
    rw [mInt]
    have := Go.Lib.itoa_nonneg (valP s s.size).toNat
    rw [Int.toNat_of_nonneg hp] at this
    rw [this]
  have e0 : s = ⟨s.data.toList.toArray⟩ := rfl
  constructor
  · rintro h ⟨hb, hs⟩
    rw [e] at h
    have hL : s.data.toList = Go.Lib.decDigits (valP s s.size).toNat := (congrArg (fun x : ByteArray => x.data.toList) h).symm
    obtain ⟨h', e2⟩ := bt_at (s := s) (i := 0) (by omega)
    have hlen := bs_len s
    by_cases h0 : (valP s s.size).toNat = 0
    · rw [h0, Go.Lib.decDigits_one (by omega)] at hL
      rw [hL] at hlen; simp at hlen; omega
    · obtain ⟨x, t, hx, hx2⟩ := dec_head (valP s s.size).toNat (by omega)
      rw [hx] at hL
      have e3 : s.data.toList[0] = x := by simp [hL]
      rw [hb, e3] at e2
      exact hx2 (UInt8.toNat_inj.1 e2.symm)
  · intro h
    obtain ⟨n, hn⟩ : ∃ n, s.size = n + 1 := ⟨s.size - 1, by omega⟩
    have hd := dec_take (s := s) (p := n) (by omega) (hn ▸ ha) (fun hb => by
      refine Nat.eq_zero_of_not_pos fun h0 => h ⟨hb, by omega⟩)
    rw [← hn] at hd
    have hlen := bs_len s
    rw [List.take_of_length_le (by omega)] at hd
    rw [e, hd]

noncomputable def mVal (s : ByteArray) : Int := if okNum s then valP s s.size else 0
noncomputable def mOk (s : ByteArray) : Bool := decide (okNum s)
theorem mOk_yes {s : ByteArray} (h : okNum s) : mOk s = true ∧ mVal s = valP s s.size := by simp [mOk, mVal, h]
theorem mOk_no {s : ByteArray} (h : ¬ okNum s) : mOk s = false ∧ mVal s = 0 := by simp [mOk, mVal, h]
theorem mIn_i {x y z : Int} : mIn x y z = true ↔ y ≤ x ∧ x ≤ z := by simp [mIn]
theorem bt_get (s : ByteArray) (i : Nat) : (s.get! i).toNat = bt s i := rfl
/-- loop.example/g03007/impl.ParseInt -/
noncomputable def c5 : Con := mkCon 5 false (α := ByteArray) (fun x => (fun (s : ByteArray) => [dS s]) x) (fun _ => []) (fun x => (fun (s : ByteArray) => s.size ≤ 1099511627776) x) (fun x => (fun (s : ByteArray) => (.tup [dI (mVal s), dB (mOk s)] : D)) x) (fun x => (fun (s : ByteArray) => []) x)
@[simp] theorem c5_f : c5.f = 5 := rfl
@[simp] theorem c5_own : c5.own = false := rfl
theorem c5_inj : ∀ u_ v_ : ByteArray, ((fun x => (fun (s : ByteArray) => [dS s]) x) u_).map nz = ((fun x => (fun (s : ByteArray) => [dS s]) x) v_).map nz → u_ = v_ := by
  intro u_ v_ h
  obtain s := u_
  obtain s' := v_
  simp [nz_lit, nz1_lit, nz_agg, nz_sl, nz1_sl] at h
  first | (simp [h]; done) | (obtain ⟨⟩ := h; simp_all; done) | simp_all
@[simp] theorem c5_fn (s : ByteArray) : c5.fn [.lit (.string s)] [] = some ((fun (s : ByteArray) => s.size ≤ 1099511627776) s, (fun (s : ByteArray) => (.tup [dI (mVal s), dB (mOk s)] : D)) s, (fun (s : ByteArray) => []) s) :=
  mkCon_fn (fun x y h _ => c5_inj x y h) (s : ByteArray) (by simp [nz, nz1, ML_nil]) rfl
theorem c5_pc (s : ByteArray) (hpre : s.size ≤ 1099511627776) : PCo Try.prog 5 [dS s] (Tab.of []) (.tup [dI (mVal s), dB (mOk s)]) (Tab.of []) := by
  refine pco_of_run [] (E := ⟨[], []⟩) (m := false) (base := 0) Env.ok_nil G_ok mix 300 6 Try.func5 (by kernel_rfl) rfl (by kernel_rfl) (by kernel_rfl) rfl ?_
  have hemp : s.size = 0 → mOk s = false ∧ mVal s = 0 := fun h => mOk_no fun hk => by have := hk.1; omega
  simp [Try.f5]
  refine ⟨fun h => ?_, fun h => ?_⟩
  · subst h; have := hemp rfl; exact ⟨this.2.symm, this.1⟩
  · have hs1 : 1 ≤ s.size := Nat.pos_of_ne_zero fun e => h (by
      have e2 : s.data.toList = [] := List.eq_nil_of_length_eq_zero e
      show s = ⟨[].toArray⟩
      rw [← e2])
    refine loop_inv (fun p : Nat => p ≤ s.size ∧ allP s p ∧ (0 < p → bt s 0 = 48 → s.size ≤ 1) ∧ valP s p ≤ 1000000000000) (fun p => [(0, dS s), (4, dI (valP s p)), (10, dI s.size), (11, dI p)]) (fun _ => []) 1 (fun p => s.size - p) 0 400 (by simp) (by simp [allP, valP]) (by simp [valP]) ?_
    intro p ⟨hp, ha, h0, hv⟩
    have hv0 := valP_pos ha
    simp [bt_get]
    have hno : ¬ okNum s → 0 = mVal s ∧ mOk s = false := fun h => ⟨(mOk_no h).2.symm, (mOk_no h).1⟩
    have hw : 48 ≤ bt s p ∧ bt s p ≤ 57 → IntKind.u8.wrap ((bt s p : Int) - 48) = (bt s p : Int) - 48 := fun h => by simp [IntKind.wrap, IntKind.bits, IntKind.signed]; omega
    have hbig : p < s.size → 48 ≤ bt s p ∧ bt s p ≤ 57 → 1000000000000 < 10 * valP s p + ((bt s p : Int) - 48) → ¬ okNum s := fun hlt hd hx hk => by
      have h1 := valP_le (s := s) (p := p + 1) (n := s.size) (by omega) hk.2.1
      have h2 := hk.2.2.2
      simp only [valP] at h1; omega
    have hdig : p < s.size → ¬ (48 ≤ bt s p ∧ bt s p ≤ 57) → ¬ okNum s := fun hlt hd hk => hd (hk.2.1 p hlt)
    have hst : p < s.size → 48 ≤ bt s p ∧ bt s p ≤ 57 → allP s (p + 1) := fun hlt hd => allP_succ.2 ⟨ha, hd⟩
    have hz : (bt s p = 48 → p = 0 → s.size ≤ 1) → 0 < p + 1 → bt s 0 = 48 → s.size ≤ 1 := fun h _ hb => by
      by_cases hp0 : p = 0
      · subst hp0; exact h hb rfl
      · exact h0 (by omega) hb
    refine ⟨fun hlt => ⟨by omega, ?_⟩, fun hge => ?_⟩
    · by_cases hd : 48 ≤ bt s p ∧ bt s p ≤ 57
      · simp only [hw hd]
        refine ⟨fun hb => ⟨fun hp0 hs => ?_, fun hs => ?_⟩, fun hb => ?_⟩
        · subst hp0
          exact hno fun hk => hk.2.2.1 ⟨by omega, by omega⟩
        · refine ⟨by omega, fun hx => hno (hbig (by omega) hd hx), fun hx => ⟨by omega, ?_⟩⟩
          exact Again.mk (p + 1) ⟨by omega, hst (by omega) hd, hz (fun _ h => by have := hs h; omega), by simp only [valP]; omega⟩ (by simp [valP]) (by first | omega | (simp; omega))
        · repeat' (first
            | exact hno (hbig (by omega) hd (by omega))
            | omega
            | exact Again.mk (p + 1) ⟨by omega, hst (by omega) hd, hz (fun h => by omega), by simp only [valP]; omega⟩ (by simp [valP]) (by first | omega | (simp; omega))
            | intro _
            | refine And.intro ?_ ?_)
      · have hn := hno (hdig (by omega) hd)
        refine ⟨fun hb => absurd ⟨by omega, by omega⟩ hd, fun hb => ?_⟩
        repeat' (first
            | exact hn
            | omega
            | intro _
            | refine And.intro ?_ ?_)
    · have e : p = s.size := by omega
      subst e
      have hk : okNum s := ⟨hs1, ha, fun h => by have := h0 (by omega) h.1; omega, hv⟩
      have := mOk_yes hk
      exact ⟨this.2.symm, this.1⟩
theorem c5_ok : c5.ok Try.prog := mkCon_ok fun s hpre => c5_pc s hpre
/-- loop.example/g03007/spec.ParseInt -/
noncomputable def c4 : Con := mkCon 4 false (α := ByteArray) (fun x => (fun (s : ByteArray) => [dS s]) x) (fun _ => []) (fun x => (fun (s : ByteArray) => s.size ≤ 1099511627776) x) (fun x => (fun (s : ByteArray) => (.tup [dI (mVal s), dB (mOk s)] : D)) x) (fun x => (fun (s : ByteArray) => []) x)
@[simp] theorem c4_f : c4.f = 4 := rfl
@[simp] theorem c4_own : c4.own = false := rfl
theorem c4_inj : ∀ u_ v_ : ByteArray, ((fun x => (fun (s : ByteArray) => [dS s]) x) u_).map nz = ((fun x => (fun (s : ByteArray) => [dS s]) x) v_).map nz → u_ = v_ := by
  intro u_ v_ h
  obtain s := u_
  obtain s' := v_
  simp [nz_lit, nz1_lit, nz_agg, nz_sl, nz1_sl] at h
  first | (simp [h]; done) | (obtain ⟨⟩ := h; simp_all; done) | simp_all
@[simp] theorem c4_fn (s : ByteArray) : c4.fn [.lit (.string s)] [] = some ((fun (s : ByteArray) => s.size ≤ 1099511627776) s, (fun (s : ByteArray) => (.tup [dI (mVal s), dB (mOk s)] : D)) s, (fun (s : ByteArray) => []) s) :=
  mkCon_fn (fun x y h _ => c4_inj x y h) (s : ByteArray) (by simp [nz, nz1, ML_nil]) rfl
theorem c4_pc (s : ByteArray) (hpre : s.size ≤ 1099511627776) : PCo Try.prog 4 [dS s] (Tab.of []) (.tup [dI (mVal s), dB (mOk s)]) (Tab.of []) := by
  refine pco_of_run [] (E := ⟨[c6, c7], []⟩) (m := false) (base := 0) (Env.ok_cons c6_ok (Env.ok_cons c7_ok Env.ok_nil)) G_ok mix 300 6 Try.func4 (by kernel_rfl) rfl (by kernel_rfl) (by kernel_rfl) rfl ?_
  have hno : ¬ okNum s → 0 = mVal s ∧ mOk s = false := fun h => ⟨(mOk_no h).2.symm, (mOk_no h).1⟩
  by_cases hsz : 1 ≤ s.size ∧ s.size ≤ 13
  · have hi : mIn (s.size : Int) 1 13 = true := mIn_i.2 (by omega)
    simp [Try.f4, hi]
    refine loop_inv (fun p : Nat => p ≤ s.size ∧ allP s p) (fun p => [(0, dS s), (4, dI (valP s p)), (5, dI p)]) (fun _ => []) 1 (fun p => s.size - p) 0 400 (by simp) (by simp [allP]) (by simp [valP]) ?_
    intro p ⟨hp, ha⟩
    have hv0 := valP_pos ha
    have hv1 := valP_small ha
    have h10 : (10 : Int) ^ p ≤ 10 ^ 13 := by
      have : ∀ q : Nat, (10 : Int) ^ p ≤ 10 ^ (p + q) := fun q => by
        induction q with
        | zero => exact Int.le_refl _
        | succ q ih => rw [← Nat.add_assoc, Int.pow_succ]; have := ten_pos (p + q); omega
      have := this (13 - p)
      rwa [show p + (13 - p) = 13 by omega] at this
    have h13 : (10 : Int) ^ 13 = 10000000000000 := by decide
    have hw : 48 ≤ bt s p ∧ bt s p ≤ 57 → IntKind.u8.wrap ((bt s p : Int) - 48) = (bt s p : Int) - 48 := fun h => by simp [IntKind.wrap, IntKind.bits, IntKind.signed]; omega
    have hb : bt s p < 256 := UInt8.toNat_lt _
    simp [bt_get]
    refine ⟨fun hlt => ⟨⟨by omega, by omega⟩, fun hm => hno fun hk => ?_, fun hm => ?_⟩, fun hge => ?_⟩
    · have hd := hk.2.1 p (by omega)
      have : mIn (bt s p : Int) 48 57 = true := mIn_i.2 ⟨by have := hd.1; omega, by have := hd.2; omega⟩
      rw [hm] at this; cases this
    · have hd := mIn_i.1 hm
      have hd2 : 48 ≤ bt s p ∧ bt s p ≤ 57 := by omega
      rw [hw hd2]
      refine ⟨by omega, by omega, Again.mk (p + 1) ⟨by omega, allP_succ.2 ⟨ha, hd2⟩⟩ (by simp [valP]) (by first | omega | (simp; omega))⟩
    · have e : p = s.size := by omega
      subst e
      have hiff := num_iff hsz.1 ha (by omega)
      refine ⟨fun _ => by omega, fun h => hno fun hk => ?_, fun h1 h2 => ?_⟩
      · rcases h with h | h
        · have := hk.2.2.2; omega
        · exact h (hiff.2 hk.2.2.1)
      · have := mOk_yes (s := s) ⟨hsz.1, ha, hiff.1 h2, h1⟩
        exact ⟨this.2.symm, this.1⟩
  · have hi : mIn (s.size : Int) 1 13 = false := by rw [← Bool.not_eq_true, mIn_i]; omega
    simp [Try.f4, hi]
    exact hno fun hk => hsz ⟨hk.1, okNum_size hk⟩
theorem c4_ok : c4.ok Try.prog := mkCon_ok fun s hpre => c4_pc s hpre
/-- loop.example/g03007/laws.FnExactParseInt -/
theorem law3 (s : ByteArray) (ws : s.size ≤ maxLen) : PCo Try.prog 3 [dS s] (Tab.of []) (dB true) (Tab.of []) := by
  refine pco_of_run [] (E := ⟨[c4, c5], []⟩) (m := false) (base := 0) (Env.ok_cons c4_ok (Env.ok_cons c5_ok Env.ok_nil)) G_ok mix 400 6 Try.func3 (by kernel_rfl) rfl (by kernel_rfl) (by kernel_rfl) rfl ?_
  simp (config := {maxSteps := 3000000}) [Try.f3]
  omega
theorem law3_pc (D0 : D) (h0 : Sh G 9 9 D0) : PC Try.prog 3 [D0] (dB true) [] := by
  obtain ⟨s, rfl, ws⟩ := sh9 (n := 8) h0
  exact law3 s ws

end Go.Proofs.Ytjileabfehepmaa
