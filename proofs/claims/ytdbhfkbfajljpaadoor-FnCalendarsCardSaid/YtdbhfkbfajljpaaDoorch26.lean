/- Contracts of the functions that the laws run. -/
import Derived.Test.YtdbhfkbfajljpaaDoorhelpA
import Derived.Test.YtdbhfkbfajljpaaDoorbits
import Derived.Test.YtdbhfkbfajljpaaDoorEngB
namespace Go.Proofs.YtdbhfkbfajljpaaDoor
open Go Go.Eng
set_option linter.unusedSimpArgs false
set_option linter.unusedVariables false
set_option maxRecDepth 10000
set_option maxHeartbeats 1000000
noncomputable def wkT (l : List Bool) : Nat → Int
  | 0 => 0
  | p + 1 => if l[p]?.getD false then orK .u8 (wkT l p) (shlK .u8 1 p) else wkT l p
def wkC (l : List Bool) : Nat → Int
  | 0 => 0
  | p + 1 => if l[p]?.getD false then IntKind.u8.wrap (BitVec.ofInt IntKind.u8.bits (wkC l p) ||| BitVec.ofInt IntKind.u8.bits (IntKind.u8.wrap (1 * 2 ^ (min p IntKind.u8.bits)))).toNat else wkC l p
theorem wk_eq (l : List Bool) : ∀ p, wkT l p = wkC l p
  | 0 => rfl
  | p + 1 => by
    simp only [wkT, wkC, wk_eq l p, orK_eq, shlK_eq, Int.toNat_natCast]
theorem wk_all : ∀ a b c d e f g : Bool, ∀ i : Fin 7, ((IntKind.u8.wrap (BitVec.ofInt IntKind.u8.bits ((wkC [a, b, c, d, e, f, g] 7).fdiv (2 ^ (min i.val IntKind.u8.bits))) &&& BitVec.ofInt IntKind.u8.bits 1).toNat = 1) ↔ [a, b, c, d, e, f, g][i.val]?.getD false = true) ∧ (wkC [a, b, c, d, e, f, g] 7 = 0 ↔ (a || b || c || d || e || f || g) = false) ∧ 0 ≤ wkC [a, b, c, d, e, f, g] 7 := by decide +kernel
theorem seven {l : List Bool} (h : l.length = 7) : ∃ a b c d e f g, l = [a, b, c, d, e, f, g] := by
  match l, h with
  | [a, b, c, d, e, f, g], _ => exact ⟨a, b, c, d, e, f, g, rfl⟩
theorem wk_has {l : List Bool} (h : l.length = 7) {i : Nat} (hi : i < 7) : (andK .u8 (shrK .u8 (wkT l 7) i) 1 = 1) ↔ l[i]?.getD false = true := by
  obtain ⟨a, b, c, d, e, f, g, rfl⟩ := seven h
  have := (wk_all a b c d e f g ⟨i, hi⟩).1
  rw [andK_eq, shrK_eq, wk_eq, Int.toNat_natCast]; exact this
theorem wk_zero {l : List Bool} (h : l.length = 7) : wkT l 7 = 0 ↔ l.any id = false := by
  obtain ⟨a, b, c, d, e, f, g, rfl⟩ := seven h
  have := (wk_all a b c d e f g ⟨0, by omega⟩).2.1
  rw [wk_eq, this]; simp [Bool.or_assoc]
def isO (l : List Bool) (d : Int) : Bool := l[(d % 7).toNat]?.getD false
def nxF (l : List Bool) : Nat → Int → Int
  | 0, d => d
  | f + 1, d => if isO l d then d else nxF l f (d + 1)
def nxO (l : List Bool) (d : Int) : Int := nxF l 7 d
theorem nxF_ge (l : List Bool) : ∀ (f : Nat) (d : Int), d ≤ nxF l f d ∧ nxF l f d ≤ d + f
  | 0, d => by simp [nxF]
  | f + 1, d => by
    simp only [nxF]; split
    · omega
    · have := nxF_ge l f (d + 1); push_cast; omega
theorem nxF_hit (l : List Bool) : ∀ (f : Nat) (d : Int) (k : Nat), k < f → isO l (d + k) = true → isO l (nxF l f d) = true
  | 0, _, k, h, _ => by omega
  | f + 1, d, k, h, hk => by
    simp only [nxF]; split
    · assumption
    · rename_i hn
      cases k with
      | zero => simp at hk; exact absurd hk hn
      | succ k => exact nxF_hit l f (d + 1) k (by omega) (by push_cast at hk; rw [Int.add_assoc, Int.add_comm 1]; exact hk)
theorem any_hit {l : List Bool} (h7 : l.length = 7) (h : l.any id = true) (d : Int) : ∃ k : Nat, k < 7 ∧ isO l (d + k) = true := by
  rw [List.any_eq_true] at h
  obtain ⟨b, hb, hbt⟩ := h
  obtain ⟨i, hi, rfl⟩ := List.mem_iff_getElem.1 hb
  refine ⟨((i - d) % 7).toNat, by omega, ?_⟩
  have e : (d + (((i - d) % 7).toNat : Int)) % 7 = i := by omega
  rw [isO, e]; simp only [Int.toNat_natCast]
  rw [List.getElem?_eq_getElem hi]; exact hbt
theorem nxO_hit {l : List Bool} (h7 : l.length = 7) (h : l.any id = true) (d : Int) : isO l (nxO l d) = true := by
  obtain ⟨k, hk, hk2⟩ := any_hit h7 h d
  exact nxF_hit l 7 d k hk hk2
theorem nxF_more (l : List Bool) : ∀ (f : Nat) (d : Int), isO l (nxF l f d) = true → nxF l (f + 1) d = nxF l f d
  | 0, d, h => by simp only [nxF] at h ⊢; rw [if_pos h]
  | f + 1, d, h => by
    rw [nxF]; conv => rhs; rw [nxF]
    simp only [nxF] at h
    split
    · rfl
    · rename_i hn
      rw [if_neg hn] at h
      exact nxF_more l f (d + 1) h
theorem nxO_at {l : List Bool} (h7 : l.length = 7) (h : l.any id = true) (d : Int) : nxO l d = if isO l d then d else nxO l (d + 1) := by
  have h1 := nxF_more l 7 d (nxO_hit h7 h d)
  rw [nxO, ← h1, nxF]; rfl
theorem nxO_ge (l : List Bool) (d : Int) : d ≤ nxO l d ∧ nxO l d ≤ d + 7 := nxF_ge l 7 d
def isCal (l : List Bool) : Bool := decide (l.length = 7) && l.any id
/-- loop.example/g03007/impl.weekOf -/
noncomputable def c20 : Con := mkCon 20 false (α := (List Bool)) (fun x => (fun (l : List Bool) => [encLB l]) x) (fun _ => []) (fun x => (fun (l : List Bool) => l.length ≤ 1099511627776) x) (fun x => (fun (l : List Bool) => (dU (wkT l l.length) : D)) x) (fun x => (fun (l : List Bool) => []) x)
@[simp] theorem c20_f : c20.f = 20 := rfl
@[simp] theorem c20_own : c20.own = false := rfl
theorem c20_inj : ∀ u_ v_ : (List Bool), ((fun x => (fun (l : List Bool) => [encLB l]) x) u_).map nz = ((fun x => (fun (l : List Bool) => [encLB l]) x) v_).map nz → u_ = v_ := by
  intro u_ v_ h
  obtain l := u_
  obtain l' := v_
  simp [nz_lit, nz1_lit, nz_agg, nz_sl, nz1_sl, encLB] at h
  first | (simp [h]; done) | (obtain ⟨⟩ := h; simp_all; done) | simp_all
@[simp] theorem c20_fn (l : List Bool) : c20.fn [.sl false 1 (.lit (.bool false)) (ML dB l)] [] = some ((fun (l : List Bool) => l.length ≤ 1099511627776) l, (fun (l : List Bool) => (dU (wkT l l.length) : D)) l, (fun (l : List Bool) => []) l) :=
  mkCon_fn (fun x y h _ => c20_inj x y h) (l : (List Bool)) (by simp [nz, nz1, ML_nil, encLB]) rfl
@[simp] theorem c20_fn1 (s_l : Nat) (z_l : D) : c20.fn [.sl false s_l z_l []] [] = some ((fun (l : List Bool) => l.length ≤ 1099511627776) [], (fun (l : List Bool) => (dU (wkT l l.length) : D)) [], (fun (l : List Bool) => []) []) :=
  mkCon_fn (fun x y h _ => c20_inj x y h) ([] : (List Bool)) (by simp [nz, nz1, ML_nil, encLB]) rfl
theorem c20_pc (l : List Bool) (hpre : l.length ≤ 1099511627776) : PCo Tryd.prog 20 [encLB l] (Tab.of []) (dU (wkT l l.length)) (Tab.of []) := by
  refine pco_of_run [] (E := ⟨[], [], []⟩) (m := false) (base := 0) Env.ok_nil G_ok mix 300 6 Tryd.func20 (by kernel_rfl) rfl (by kernel_rfl) (by kernel_rfl) rfl ?_
  simp [Tryd.f20]
  refine loop_inv (fun p : Nat => p ≤ l.length) (fun p => [(3, dU (wkT l p)), (6, encLB l), (7, dI l.length), (8, dI p)]) (fun _ => []) 1 (fun p => l.length - p) 0 400 (by simp) (by simp) (by simp [wkT]) ?_
  intro p hp
  simp [-binI, bAnd, bOr, bShl, bShr, bAdd, bSub, bMul, bQuo, bRem, bEql, bNeq, bLss, bLeq, bGtr, bGeq]
  refine ⟨fun hlt => ?_, fun hge => by have : p = l.length := by omega
                                       rw [this]⟩
  have hs : wkT l (p + 1) = if l[p]?.getD false then orK .u8 (wkT l p) (shlK .u8 1 p) else wkT l p := rfl
  cases hb : l[p]?.getD false with
  | true =>
    rw [hb] at hs; simp at hs
    simp
    repeat' (first | omega | refine And.intro ?_ ?_ | intro _)
    refine Again.mk (p + 1) (by omega) (by simp [hs]) (by first | omega | (simp; omega))
  | false =>
    rw [hb] at hs; simp at hs
    simp
    repeat' (first | omega | refine And.intro ?_ ?_ | intro _)
    refine Again.mk (p + 1) (by omega) (by simp [hs]) (by first | omega | (simp; omega))
theorem c20_ok : c20.ok Tryd.prog := mkCon_ok fun l hpre => c20_pc l hpre
theorem tm7 {d : Int} (h : 0 ≤ d) : d.tmod 7 = d % 7 := Int.tmod_eq_emod_of_nonneg h
/-- (loop.example/g03007/impl.week).has -/
noncomputable def c21 : Con := mkCon 21 false (α := Int × Int) (fun x => (fun (w : Int) (d : Int) => [dU w, dI d]) x.1 x.2) (fun _ => []) (fun x => (fun (w : Int) (d : Int) => 0 ≤ d ∧ d ≤ 1000000000) x.1 x.2) (fun x => (fun (w : Int) (d : Int) => (dB (decide (andK .u8 (shrK .u8 w (d % 7)) 1 = 1)) : D)) x.1 x.2) (fun x => (fun (w : Int) (d : Int) => []) x.1 x.2)
@[simp] theorem c21_f : c21.f = 21 := rfl
@[simp] theorem c21_own : c21.own = false := rfl
theorem c21_inj : ∀ u_ v_ : Int × Int, ((fun x => (fun (w : Int) (d : Int) => [dU w, dI d]) x.1 x.2) u_).map nz = ((fun x => (fun (w : Int) (d : Int) => [dU w, dI d]) x.1 x.2) v_).map nz → u_ = v_ := by
  intro u_ v_ h
  obtain ⟨w, d⟩ := u_
  obtain ⟨w', d'⟩ := v_
  simp [nz_lit, nz1_lit, nz_agg, nz_sl, nz1_sl] at h
  first | (simp [h]; done) | (obtain ⟨⟩ := h; simp_all; done) | simp_all
@[simp] theorem c21_fn (w : Int) (d : Int) : c21.fn [.lit (.int .u8 w), .lit (.int .i64 d)] [] = some ((fun (w : Int) (d : Int) => 0 ≤ d ∧ d ≤ 1000000000) w d, (fun (w : Int) (d : Int) => (dB (decide (andK .u8 (shrK .u8 w (d % 7)) 1 = 1)) : D)) w d, (fun (w : Int) (d : Int) => []) w d) :=
  mkCon_fn (fun x y h _ => c21_inj x y h) ((w, d) : Int × Int) (by simp [nz, nz1, ML_nil]) rfl
theorem c21_pc (w : Int) (d : Int) (hpre : 0 ≤ d ∧ d ≤ 1000000000) : PCo Tryd.prog 21 [dU w, dI d] (Tab.of []) (dB (decide (andK .u8 (shrK .u8 w (d % 7)) 1 = 1))) (Tab.of []) := by
  refine pco_of_run [] (E := ⟨[], [], []⟩) (m := false) (base := 0) Env.ok_nil G_ok mix 300 6 Tryd.func21 (by kernel_rfl) rfl (by kernel_rfl) (by kernel_rfl) rfl ?_
  have h7 := tm7 hpre.1
  simp [Tryd.f21, -binI, bAnd, bOr, bShl, bShr, bAdd, bSub, bMul, bQuo, bRem, bEql, bNeq, bLss, bLeq, bGtr, bGeq, h7]
  refine ⟨by omega, ?_⟩
  rw [Bool.eq_iff_iff]; simp
theorem c21_ok : c21.ok Tryd.prog := mkCon_ok fun ⟨w, d⟩ hpre => c21_pc w d hpre
theorem has_eq {l : List Bool} (h : l.length = 7) {d : Int} (hd : 0 ≤ d) : decide (andK .u8 (shrK .u8 (wkT l 7) (d % 7)) 1 = 1) = isO l d := by
  have := wk_has h (i := (d % 7).toNat) (by omega)
  rw [Int.toNat_of_nonneg (by omega)] at this
  rw [Bool.eq_iff_iff, decide_eq_true_eq, this]; rfl
theorem isCal_iff {l : List Bool} : isCal l = true ↔ l.length = 7 ∧ l.any id = true := by simp [isCal]
/-- loop.example/g03007/impl.IsCalendar -/
noncomputable def c11 : Con := mkCon 11 false (α := (List Bool)) (fun x => (fun (l : List Bool) => [encLB l]) x) (fun _ => []) (fun x => (fun (l : List Bool) => l.length ≤ 1099511627776) x) (fun x => (fun (l : List Bool) => (dB (isCal l) : D)) x) (fun x => (fun (l : List Bool) => []) x)
@[simp] theorem c11_f : c11.f = 11 := rfl
@[simp] theorem c11_own : c11.own = false := rfl
theorem c11_inj : ∀ u_ v_ : (List Bool), ((fun x => (fun (l : List Bool) => [encLB l]) x) u_).map nz = ((fun x => (fun (l : List Bool) => [encLB l]) x) v_).map nz → u_ = v_ := by
  intro u_ v_ h
  obtain l := u_
  obtain l' := v_
  simp [nz_lit, nz1_lit, nz_agg, nz_sl, nz1_sl, encLB] at h
  first | (simp [h]; done) | (obtain ⟨⟩ := h; simp_all; done) | simp_all
@[simp] theorem c11_fn (l : List Bool) : c11.fn [.sl false 1 (.lit (.bool false)) (ML dB l)] [] = some ((fun (l : List Bool) => l.length ≤ 1099511627776) l, (fun (l : List Bool) => (dB (isCal l) : D)) l, (fun (l : List Bool) => []) l) :=
  mkCon_fn (fun x y h _ => c11_inj x y h) (l : (List Bool)) (by simp [nz, nz1, ML_nil, encLB]) rfl
@[simp] theorem c11_fn1 (s_l : Nat) (z_l : D) : c11.fn [.sl false s_l z_l []] [] = some ((fun (l : List Bool) => l.length ≤ 1099511627776) [], (fun (l : List Bool) => (dB (isCal l) : D)) [], (fun (l : List Bool) => []) []) :=
  mkCon_fn (fun x y h _ => c11_inj x y h) ([] : (List Bool)) (by simp [nz, nz1, ML_nil, encLB]) rfl
theorem c11_pc (l : List Bool) (hpre : l.length ≤ 1099511627776) : PCo Tryd.prog 11 [encLB l] (Tab.of []) (dB (isCal l)) (Tab.of []) := by
  refine pco_of_run [] (E := ⟨[c20], [], []⟩) (m := false) (base := 0) (Env.ok_cons c20_ok Env.ok_nil) G_ok mix 300 6 Tryd.func11 (by kernel_rfl) rfl (by kernel_rfl) (by kernel_rfl) rfl ?_
  simp [Tryd.f11]
  refine ⟨fun _ => hpre, ?_⟩
  by_cases h : l.length = 7
  · have h2 := wk_zero h
    have e : ((l.length : Int) = 7) := by omega
    have e3 : (wkT l l.length != 0) = l.any id := by
      rw [h, Bool.eq_iff_iff, bne_iff_ne, ne_eq, h2]; simp
    have e4 : isCal l = l.any id := by simp [isCal, h]
    rw [e4, e3]; simp [e]
  · have e : ¬ ((l.length : Int) = 7) := by omega
    simp [isCal, h, e]
theorem c11_ok : c11.ok Tryd.prog := mkCon_ok fun l hpre => c11_pc l hpre
/-- loop.example/g03007/impl.IsOpen -/
noncomputable def c7 : Con := mkCon 7 false (α := (List Bool) × Int) (fun x => (fun (l : List Bool) (d : Int) => [encLB l, dI d]) x.1 x.2) (fun _ => []) (fun x => (fun (l : List Bool) (d : Int) => l.length ≤ 1099511627776) x.1 x.2) (fun x => (fun (l : List Bool) (d : Int) => (dB (isCal l && mIn d 0 100000 && isO l d) : D)) x.1 x.2) (fun x => (fun (l : List Bool) (d : Int) => []) x.1 x.2)
@[simp] theorem c7_f : c7.f = 7 := rfl
@[simp] theorem c7_own : c7.own = false := rfl
theorem c7_inj : ∀ u_ v_ : (List Bool) × Int, ((fun x => (fun (l : List Bool) (d : Int) => [encLB l, dI d]) x.1 x.2) u_).map nz = ((fun x => (fun (l : List Bool) (d : Int) => [encLB l, dI d]) x.1 x.2) v_).map nz → u_ = v_ := by
  intro u_ v_ h
  obtain ⟨l, d⟩ := u_
  obtain ⟨l', d'⟩ := v_
  simp [nz_lit, nz1_lit, nz_agg, nz_sl, nz1_sl, encLB] at h
  first | (simp [h]; done) | (obtain ⟨⟩ := h; simp_all; done) | simp_all
@[simp] theorem c7_fn (l : List Bool) (d : Int) : c7.fn [.sl false 1 (.lit (.bool false)) (ML dB l), .lit (.int .i64 d)] [] = some ((fun (l : List Bool) (d : Int) => l.length ≤ 1099511627776) l d, (fun (l : List Bool) (d : Int) => (dB (isCal l && mIn d 0 100000 && isO l d) : D)) l d, (fun (l : List Bool) (d : Int) => []) l d) :=
  mkCon_fn (fun x y h _ => c7_inj x y h) ((l, d) : (List Bool) × Int) (by simp [nz, nz1, ML_nil, encLB]) rfl
@[simp] theorem c7_fn1 (s_l : Nat) (z_l : D) (d : Int) : c7.fn [.sl false s_l z_l [], .lit (.int .i64 d)] [] = some ((fun (l : List Bool) (d : Int) => l.length ≤ 1099511627776) [] d, (fun (l : List Bool) (d : Int) => (dB (isCal l && mIn d 0 100000 && isO l d) : D)) [] d, (fun (l : List Bool) (d : Int) => []) [] d) :=
  mkCon_fn (fun x y h _ => c7_inj x y h) (([], d) : (List Bool) × Int) (by simp [nz, nz1, ML_nil, encLB]) rfl
theorem c7_pc (l : List Bool) (d : Int) (hpre : l.length ≤ 1099511627776) : PCo Tryd.prog 7 [encLB l, dI d] (Tab.of []) (dB (isCal l && mIn d 0 100000 && isO l d)) (Tab.of []) := by
  refine pco_of_run [] (E := ⟨[c11, c18, c20, c21], [], []⟩) (m := false) (base := 0) (Env.ok_cons c11_ok (Env.ok_cons c18_ok (Env.ok_cons c20_ok (Env.ok_cons c21_ok Env.ok_nil)))) G_ok mix 300 6 Tryd.func7 (by kernel_rfl) rfl (by kernel_rfl) (by kernel_rfl) rfl ?_
  simp [Tryd.f7]
  cases h1 : isCal l with
  | false => simp [hpre]
  | true => cases h2 : mIn d 0 100000 with
    | false => simp [hpre]
    | true =>
      have h7 := (isCal_iff.1 h1).1
      have hd := mIn_iff.1 h2
      have he := has_eq h7 hd.1
      have e2 : wkT l l.length = wkT l 7 := by rw [h7]
      simp [e2, he]
      omega
theorem c7_ok : c7.ok Tryd.prog := mkCon_ok fun ⟨l, d⟩ hpre => c7_pc l d hpre
def mNext (l : List Bool) (d : Int) : Int := if isCal l && mIn d 0 100000 then nxO l d else -1
noncomputable def isOw (w d : Int) : Bool := decide (andK .u8 (shrK .u8 w (d % 7)) 1 = 1)
noncomputable def nxFw (w : Int) : Nat → Int → Int
  | 0, d => d
  | f + 1, d => if isOw w d then d else nxFw w f (d + 1)
noncomputable def nxOw (w d : Int) : Int := nxFw w 7 d
theorem nxFw_eq {l : List Bool} (h : l.length = 7) : ∀ (f : Nat) (d : Int), 0 ≤ d → nxFw (wkT l 7) f d = nxF l f d
  | 0, d, _ => rfl
  | f + 1, d, hd => by
    have he : isOw (wkT l 7) d = isO l d := has_eq h hd
    simp only [nxFw, nxF, he, nxFw_eq h f (d + 1) (by omega)]
theorem nxOw_eq {l : List Bool} (h : l.length = 7) {d : Int} (hd : 0 ≤ d) : nxOw (wkT l 7) d = nxO l d := nxFw_eq h 7 d hd
/-- loop.example/g03007/impl.openDaysFrom -/
noncomputable def c19 : Con := mkCon 19 false (α := (List Bool) × Int) (fun x => (fun (l : List Bool) (d : Int) => [encLB l, dI d]) x.1 x.2) (fun _ => []) (fun x => (fun (l : List Bool) (d : Int) => l.length ≤ 1099511627776) x.1 x.2) (fun x => (fun (l : List Bool) (d : Int) => (.fn (.func 28) [] [.ptr (0, 1) 0, .ptr (1, 1) 0] : D)) x.1 x.2) (fun x => (fun (l : List Bool) (d : Int) => [((0, 1), .box (dU (wkT l l.length))), ((1, 1), .box (dI d))]) x.1 x.2)
@[simp] theorem c19_f : c19.f = 19 := rfl
@[simp] theorem c19_own : c19.own = false := rfl
theorem c19_inj : ∀ u_ v_ : (List Bool) × Int, ((fun x => (fun (l : List Bool) (d : Int) => [encLB l, dI d]) x.1 x.2) u_).map nz = ((fun x => (fun (l : List Bool) (d : Int) => [encLB l, dI d]) x.1 x.2) v_).map nz → u_ = v_ := by
  intro u_ v_ h
  obtain ⟨l, d⟩ := u_
  obtain ⟨l', d'⟩ := v_
  simp [nz_lit, nz1_lit, nz_agg, nz_sl, nz1_sl, encLB] at h
  first | (simp [h]; done) | (obtain ⟨⟩ := h; simp_all; done) | simp_all
@[simp] theorem c19_fn (l : List Bool) (d : Int) : c19.fn [.sl false 1 (.lit (.bool false)) (ML dB l), .lit (.int .i64 d)] [] = some ((fun (l : List Bool) (d : Int) => l.length ≤ 1099511627776) l d, (fun (l : List Bool) (d : Int) => (.fn (.func 28) [] [.ptr (0, 1) 0, .ptr (1, 1) 0] : D)) l d, (fun (l : List Bool) (d : Int) => [((0, 1), .box (dU (wkT l l.length))), ((1, 1), .box (dI d))]) l d) :=
  mkCon_fn (fun x y h _ => c19_inj x y h) ((l, d) : (List Bool) × Int) (by simp [nz, nz1, ML_nil, encLB]) rfl
@[simp] theorem c19_fn1 (s_l : Nat) (z_l : D) (d : Int) : c19.fn [.sl false s_l z_l [], .lit (.int .i64 d)] [] = some ((fun (l : List Bool) (d : Int) => l.length ≤ 1099511627776) [] d, (fun (l : List Bool) (d : Int) => (.fn (.func 28) [] [.ptr (0, 1) 0, .ptr (1, 1) 0] : D)) [] d, (fun (l : List Bool) (d : Int) => [((0, 1), .box (dU (wkT l l.length))), ((1, 1), .box (dI d))]) [] d) :=
  mkCon_fn (fun x y h _ => c19_inj x y h) (([], d) : (List Bool) × Int) (by simp [nz, nz1, ML_nil, encLB]) rfl
theorem c19_pc (l : List Bool) (d : Int) (hpre : l.length ≤ 1099511627776) : PCo Tryd.prog 19 [encLB l, dI d] (Tab.of []) (.fn (.func 28) [] [.ptr (0, 1) 0, .ptr (1, 1) 0]) (Tab.of [((0, 1), .box (dU (wkT l l.length))), ((1, 1), .box (dI d))]) := by
  refine pco_of_run [] (E := ⟨[c20], [], []⟩) (m := false) (base := 0) (Env.ok_cons c20_ok Env.ok_nil) G_ok mix 300 6 Tryd.func19 (by kernel_rfl) rfl (by kernel_rfl) (by kernel_rfl) rfl ?_
  simp [Tryd.f19]
  exact hpre
theorem c19_ok : c19.ok Tryd.prog := mkCon_ok fun ⟨l, d⟩ hpre => c19_pc l d hpre
/-- loop.example/g03007/impl.openDaysFrom$1 -/
noncomputable def c28 : Con := mkCon 28 true (α := Int × Int) (fun x => (fun (w : Int) (d : Int) => ([.ptr (0, 0) 0, .ptr (1, 0) 0] : List D)) x.1 x.2) (fun x => (fun (w : Int) (d : Int) => ([((0, 0), .box (dU w)), ((1, 0), .box (dI d))] : List (Nm × OO))) x.1 x.2) (fun x => (fun (w : Int) (d : Int) => (∃ l, isCal l = true ∧ w = wkT l 7) ∧ 0 ≤ d ∧ d ≤ 1000000) x.1 x.2) (fun x => (fun (w : Int) (d : Int) => (dI (nxOw w d) : D)) x.1 x.2) (fun x => (fun (w : Int) (d : Int) => ([((0, 0), .box (dU w)), ((1, 0), .box (dI (nxOw w d + 1)))] : List (Nm × OO))) x.1 x.2)
@[simp] theorem c28_f : c28.f = 28 := rfl
@[simp] theorem c28_own : c28.own = true := rfl
theorem c28_inj : ∀ u_ v_ : Int × Int, ((fun x => (fun (w : Int) (d : Int) => ([.ptr (0, 0) 0, .ptr (1, 0) 0] : List D)) x.1 x.2) u_).map nz = ((fun x => (fun (w : Int) (d : Int) => ([.ptr (0, 0) 0, .ptr (1, 0) 0] : List D)) x.1 x.2) v_).map nz → (fun x => (fun (w : Int) (d : Int) => ([((0, 0), .box (dU w)), ((1, 0), .box (dI d))] : List (Nm × OO))) x.1 x.2) u_ = (fun x => (fun (w : Int) (d : Int) => ([((0, 0), .box (dU w)), ((1, 0), .box (dI d))] : List (Nm × OO))) x.1 x.2) v_ → u_ = v_ := by
  intro u_ v_ h h2_
  obtain ⟨w, d⟩ := u_
  obtain ⟨w', d'⟩ := v_
  simp [nz_lit, nz1_lit, nz_agg, nz_sl, nz1_sl, nz_sx, nz_el, nz1_el, nz_own, nz1_own, nz_ptr, nz_fn, nz_iface] at h h2_
  first | (simp [h, h2_]; done) | (obtain ⟨h3_, h4_⟩ := List.append_inj h2_ h.1; simp_all; done) | simp_all | grind
@[simp] theorem c28_fn (w : Int) (d : Int) : c28.fn ([.ptr (0, 0) 0, .ptr (1, 0) 0]) ([((0, 0), .box (dU w)), ((1, 0), .box (dI d))]) = some ((∃ l, isCal l = true ∧ w = wkT l 7) ∧ 0 ≤ d ∧ d ≤ 1000000, dI (nxOw w d), [((0, 0), .box (dU w)), ((1, 0), .box (dI (nxOw w d + 1)))]) :=
  mkCon_fn c28_inj ((w, d) : Int × Int) rfl rfl
theorem c28_pc (w : Int) (d : Int) (hpre : (∃ l, isCal l = true ∧ w = wkT l 7) ∧ 0 ≤ d ∧ d ≤ 1000000) : PCo Tryd.prog 28 ([.ptr (0, 0) 0, .ptr (1, 0) 0]) (Tab.of ([((0, 0), .box (dU w)), ((1, 0), .box (dI d))])) (dI (nxOw w d)) (Tab.of ([((0, 0), .box (dU w)), ((1, 0), .box (dI (nxOw w d + 1)))])) := by
  refine pco_of_run [] (E := ⟨[c21], [], []⟩) (m := false) (base := 0) (Env.ok_cons c21_ok Env.ok_nil) G_ok mix 300 6 Tryd.func28 (by kernel_rfl) rfl (by kernel_rfl) (by kernel_rfl) rfl ?_
  simp [Tryd.f28]
  obtain ⟨⟨l, hl, rfl⟩, hd0, hd1⟩ := hpre
  obtain ⟨h7, ha⟩ := isCal_iff.1 hl
  have hge := nxO_ge l d
  simp only [nxOw_eq h7 hd0]
  refine loop_inv (fun q : Int => 0 ≤ q ∧ q ≤ nxO l d ∧ nxO l d = nxO l q) (fun q => [(0, .ptr (0, 0) 0), (1, .ptr (1, 0) 0)]) (fun q => [((0, 0), .box (dU (wkT l 7))), ((1, 0), .box (dI q))]) 2 (fun q => (nxO l d - q).toNat) d 400 (by simp) (by simp; omega) (by simp) ?_
  intro q ⟨hq0, hq, hi⟩
  have he := has_eq h7 hq0
  have hn := nxO_at h7 ha q
  have hg2 := nxO_ge l (q + 1)
  simp [he]
  refine ⟨by omega, fun ho => ?_, fun ho => ?_⟩
  · rw [ho] at hn; simp at hn
    repeat' (first | omega | refine And.intro ?_ ?_ | intro _)
    exact Again.mk (q + 1) ⟨by omega, by omega, by omega⟩ (by simp) (by first | omega | (simp; omega))
  · rw [ho] at hn; simp at hn
    repeat' (first | omega | refine And.intro ?_ ?_ | intro _)
theorem c28_ok : c28.ok Tryd.prog := mkCon_ok fun ⟨w, d⟩ hpre => c28_pc w d hpre
/-- loop.example/g03007/impl.NextOpen -/
noncomputable def c10 : Con := mkCon 10 false (α := (List Bool) × Int) (fun x => (fun (l : List Bool) (d : Int) => [encLB l, dI d]) x.1 x.2) (fun _ => []) (fun x => (fun (l : List Bool) (d : Int) => l.length ≤ 1099511627776) x.1 x.2) (fun x => (fun (l : List Bool) (d : Int) => (dI (mNext l d) : D)) x.1 x.2) (fun x => (fun (l : List Bool) (d : Int) => []) x.1 x.2)
@[simp] theorem c10_f : c10.f = 10 := rfl
@[simp] theorem c10_own : c10.own = false := rfl
theorem c10_inj : ∀ u_ v_ : (List Bool) × Int, ((fun x => (fun (l : List Bool) (d : Int) => [encLB l, dI d]) x.1 x.2) u_).map nz = ((fun x => (fun (l : List Bool) (d : Int) => [encLB l, dI d]) x.1 x.2) v_).map nz → u_ = v_ := by
  intro u_ v_ h
  obtain ⟨l, d⟩ := u_
  obtain ⟨l', d'⟩ := v_
  simp [nz_lit, nz1_lit, nz_agg, nz_sl, nz1_sl, encLB] at h
  first | (simp [h]; done) | (obtain ⟨⟩ := h; simp_all; done) | simp_all
@[simp] theorem c10_fn (l : List Bool) (d : Int) : c10.fn [.sl false 1 (.lit (.bool false)) (ML dB l), .lit (.int .i64 d)] [] = some ((fun (l : List Bool) (d : Int) => l.length ≤ 1099511627776) l d, (fun (l : List Bool) (d : Int) => (dI (mNext l d) : D)) l d, (fun (l : List Bool) (d : Int) => []) l d) :=
  mkCon_fn (fun x y h _ => c10_inj x y h) ((l, d) : (List Bool) × Int) (by simp [nz, nz1, ML_nil, encLB]) rfl
@[simp] theorem c10_fn1 (s_l : Nat) (z_l : D) (d : Int) : c10.fn [.sl false s_l z_l [], .lit (.int .i64 d)] [] = some ((fun (l : List Bool) (d : Int) => l.length ≤ 1099511627776) [] d, (fun (l : List Bool) (d : Int) => (dI (mNext l d) : D)) [] d, (fun (l : List Bool) (d : Int) => []) [] d) :=
  mkCon_fn (fun x y h _ => c10_inj x y h) (([], d) : (List Bool) × Int) (by simp [nz, nz1, ML_nil, encLB]) rfl
theorem c10_pc (l : List Bool) (d : Int) (hpre : l.length ≤ 1099511627776) : PCo Tryd.prog 10 [encLB l, dI d] (Tab.of []) (dI (mNext l d)) (Tab.of []) := by
  refine pco_of_run [] (E := ⟨[c11, c18, c19, c28], [], []⟩) (m := false) (base := 0) (Env.ok_cons c11_ok (Env.ok_cons c18_ok (Env.ok_cons c19_ok (Env.ok_cons c28_ok Env.ok_nil)))) G_ok mix 300 6 Tryd.func10 (by kernel_rfl) rfl (by kernel_rfl) (by kernel_rfl) rfl ?_
  by_cases h : (isCal l && mIn d 0 100000) = true
  · have hm : mNext l d = nxO l d := by rw [mNext, if_pos h]
    rw [Bool.and_eq_true] at h
    obtain ⟨h7, ha⟩ := isCal_iff.1 h.1
    have hd := mIn_iff.1 h.2
    have e2 : wkT l l.length = wkT l 7 := by rw [h7]
    have e3 := nxOw_eq h7 hd.1
    simp [Tryd.f10, h.1, h.2, hm, e2, e3]
    exact ⟨hpre, ⟨l, h.1, rfl⟩, by omega, by omega⟩
  · have hm : mNext l d = -1 := by rw [mNext, if_neg h]
    simp [Tryd.f10, hm]
    refine ⟨hpre, fun h1 h2 => absurd (by rw [h1, h2]; rfl) h⟩
theorem c10_ok : c10.ok Tryd.prog := mkCon_ok fun ⟨l, d⟩ hpre => c10_pc l d hpre
def addD (l : List Bool) : Nat → Int → Int
  | 0, d => d
  | k + 1, d => nxO l (addD l k d + 1)
theorem addD_bd (l : List Bool) (d : Int) : ∀ k : Nat, d + k ≤ addD l k d ∧ addD l k d ≤ d + 8 * k
  | 0 => by simp [addD]
  | k + 1 => by
    have h1 := addD_bd l d k
    have h2 := nxO_ge l (addD l k d + 1)
    simp only [addD]; omega
theorem addD_mono (l : List Bool) (d : Int) (k : Nat) : ∀ j : Nat, addD l k d + j ≤ addD l (k + j) d
  | 0 => by simp
  | j + 1 => by
    have h1 := addD_mono l d k j
    have h2 := nxO_ge l (addD l (k + j) d + 1)
    rw [show k + (j + 1) = (k + j) + 1 from rfl, addD]; omega
def mAddD (l : List Bool) (d n : Int) : Int := if isCal l && mIn d 0 100000 && mIn n 0 1000 then (if n = 0 then nxO l d else addD l n.toNat d) else -1
/-- loop.example/g03007/impl.AddOpenDays -/
noncomputable def c6 : Con := mkCon 6 false (α := (List Bool) × Int × Int) (fun x => (fun (l : List Bool) (d : Int) (n : Int) => [encLB l, dI d, dI n]) x.1 x.2.1 x.2.2) (fun _ => []) (fun x => (fun (l : List Bool) (d : Int) (n : Int) => l.length ≤ 1099511627776) x.1 x.2.1 x.2.2) (fun x => (fun (l : List Bool) (d : Int) (n : Int) => (dI (mAddD l d n) : D)) x.1 x.2.1 x.2.2) (fun x => (fun (l : List Bool) (d : Int) (n : Int) => []) x.1 x.2.1 x.2.2)
@[simp] theorem c6_f : c6.f = 6 := rfl
@[simp] theorem c6_own : c6.own = false := rfl
theorem c6_inj : ∀ u_ v_ : (List Bool) × Int × Int, ((fun x => (fun (l : List Bool) (d : Int) (n : Int) => [encLB l, dI d, dI n]) x.1 x.2.1 x.2.2) u_).map nz = ((fun x => (fun (l : List Bool) (d : Int) (n : Int) => [encLB l, dI d, dI n]) x.1 x.2.1 x.2.2) v_).map nz → u_ = v_ := by
  intro u_ v_ h
  obtain ⟨l, d, n⟩ := u_
  obtain ⟨l', d', n'⟩ := v_
  simp [nz_lit, nz1_lit, nz_agg, nz_sl, nz1_sl, encLB] at h
  first | (simp [h]; done) | (obtain ⟨⟩ := h; simp_all; done) | simp_all
@[simp] theorem c6_fn (l : List Bool) (d : Int) (n : Int) : c6.fn [.sl false 1 (.lit (.bool false)) (ML dB l), .lit (.int .i64 d), .lit (.int .i64 n)] [] = some ((fun (l : List Bool) (d : Int) (n : Int) => l.length ≤ 1099511627776) l d n, (fun (l : List Bool) (d : Int) (n : Int) => (dI (mAddD l d n) : D)) l d n, (fun (l : List Bool) (d : Int) (n : Int) => []) l d n) :=
  mkCon_fn (fun x y h _ => c6_inj x y h) ((l, d, n) : (List Bool) × Int × Int) (by simp [nz, nz1, ML_nil, encLB]) rfl
@[simp] theorem c6_fn1 (s_l : Nat) (z_l : D) (d : Int) (n : Int) : c6.fn [.sl false s_l z_l [], .lit (.int .i64 d), .lit (.int .i64 n)] [] = some ((fun (l : List Bool) (d : Int) (n : Int) => l.length ≤ 1099511627776) [] d n, (fun (l : List Bool) (d : Int) (n : Int) => (dI (mAddD l d n) : D)) [] d n, (fun (l : List Bool) (d : Int) (n : Int) => []) [] d n) :=
  mkCon_fn (fun x y h _ => c6_inj x y h) (([], d, n) : (List Bool) × Int × Int) (by simp [nz, nz1, ML_nil, encLB]) rfl
theorem c6_pc (l : List Bool) (d : Int) (n : Int) (hpre : l.length ≤ 1099511627776) : PCo Tryd.prog 6 [encLB l, dI d, dI n] (Tab.of []) (dI (mAddD l d n)) (Tab.of []) := by
  refine pco_of_run [] (E := ⟨[c10, c18, c19, c28], [], []⟩) (m := false) (base := 0) (Env.ok_cons c10_ok (Env.ok_cons c18_ok (Env.ok_cons c19_ok (Env.ok_cons c28_ok Env.ok_nil)))) G_ok mix 300 6 Tryd.func6 (by kernel_rfl) rfl (by kernel_rfl) (by kernel_rfl) rfl ?_
  by_cases h : (isCal l && mIn d 0 100000 && mIn n 0 1000) = true
  · have hm : mAddD l d n = if n = 0 then nxO l d else addD l n.toNat d := by rw [mAddD, if_pos h]
    rw [Bool.and_eq_true, Bool.and_eq_true] at h
    obtain ⟨⟨hc, h1⟩, h2⟩ := h
    obtain ⟨h7, ha⟩ := isCal_iff.1 hc
    have hd := mIn_iff.1 h1
    have hn := mIn_iff.1 h2
    have hnx : mNext l d = nxO l d := by simp [mNext, hc, h1]
    have hge := nxO_ge l d
    have hneg : ¬ nxO l d < 0 := by omega
    have e2 : wkT l l.length = wkT l 7 := by rw [h7]
    simp [Tryd.f6, h2, hm, hnx, hneg, e2]
    refine ⟨hpre, ⟨by omega, hpre⟩, ?_⟩
    refine loop_inv (fun j : Nat => (j : Int) ≤ n) (fun j => [(7, dI (if j = 0 then nxO l d else addD l j d)), (8, .fn (.func 28) [] [.ptr (0, 1) 0, .ptr (1, 1) 0]), (23, dI n), (24, dI j)]) (fun j => [((0, 1), .box (dU (wkT l 7))), ((1, 1), .box (dI (addD l j d + 1)))]) 2 (fun j => n.toNat - j) 0 400 (by simp) (by simp; omega) (by simp [addD]) ?_
    intro j hj
    have hb := addD_bd l d j
    have e3 := nxOw_eq h7 (d := addD l j d + 1) (by omega)
    have hA : addD l (j + 1) d = nxO l (addD l j d + 1) := rfl
    simp [e3, ← hA]
    refine ⟨fun hlt => ?_, fun hge => ?_⟩
    · refine ⟨⟨⟨l, hc, rfl⟩, by omega, by omega⟩, by omega, ?_⟩
      exact Again.mk (j + 1) (by omega) (by simp) (by first | omega | (simp; omega))
    · have : n = j := by omega
      subst this
      have hj0 : ((j : Int) = 0) ↔ j = 0 := by omega
      simp [hj0]
  · have hm : mAddD l d n = -1 := by rw [mAddD, if_neg h]
    simp [Tryd.f6, hm]
    refine ⟨hpre, fun h3 h4 => ?_⟩
    exfalso
    by_cases h5 : (isCal l && mIn d 0 100000) = true
    · exact h (by rw [h5, h4]; rfl)
    · rw [mNext, if_neg h5] at h3; omega
theorem c6_ok : c6.ok Tryd.prog := mkCon_ok fun ⟨l, d, n⟩ hpre => c6_pc l d n hpre

end Go.Proofs.YtdbhfkbfajljpaaDoor
