/- Contracts of the functions that the laws run. -/
import Derived.Test.YtobofamoagbacaaDoorhelpA
import Derived.Test.YtobofamoagbacaaDoorbits
import Derived.Test.YtobofamoagbacaaDoorEngB
namespace Go.Proofs.YtobofamoagbacaaDoor
open Go Go.Eng
set_option linter.unusedSimpArgs false
set_option linter.unusedVariables false
set_option maxRecDepth 10000
set_option maxHeartbeats 1000000
noncomputable def wkT (l : List Bool) : Nat → Int
  | 0 => 0
  | p + 1 => if l[p]?.getD false then orK .u8 (wkT l p) (shlK .u8 1 p) else wkT l p
def wkC (l : List Bool) : Nat → Int
  | 0 => 0
  | p + 1 => if l[p]?.getD false then IntKind.u8.wrap (BitVec.ofInt IntKind.u8.bits (wkC l p) ||| BitVec.ofInt IntKind.u8.bits (IntKind.u8.wrap (1 * 2 ^ (min p IntKind.u8.bits)))).toNat else wkC l p
theorem wk_eq (l : List Bool) : ∀ p, wkT l p = wkC l p
  | 0 => rfl
  | p + 1 => by
    simp only [wkT, wkC, wk_eq l p, orK_eq, shlK_eq, Int.toNat_natCast]
theorem wk_all : ∀ a b c d e f g : Bool, ∀ i : Fin 7, ((IntKind.u8.wrap (BitVec.ofInt IntKind.u8.bits ((wkC [a, b, c, d, e, f, g] 7).fdiv (2 ^ (min i.val IntKind.u8.bits))) &&& BitVec.ofInt IntKind.u8.bits 1).toNat = 1) ↔ [a, b, c, d, e, f, g][i.val]?.getD false = true) ∧ (wkC [a, b, c, d, e, f, g] 7 = 0 ↔ (a || b || c || d || e || f || g) = false) ∧ 0 ≤ wkC [a, b, c, d, e, f, g] 7 := by decide +kernel
theorem seven {l : List Bool} (h : l.length = 7) : ∃ a b c d e f g, l = [a, b, c, d, e, f, g] := by
  match l, h with
  | [a, b, c, d, e, f, g], _ => exact ⟨a, b, c, d, e, f, g, rfl⟩
theorem wk_has {l : List Bool} (h : l.length = 7) {i : Nat} (hi : i < 7) : (andK .u8 (shrK .u8 (wkT l 7) i) 1 = 1) ↔ l[i]?.getD false = true := by
  obtain ⟨a, b, c, d, e, f, g, rfl⟩ := seven h
  have := (wk_all a b c d e f g ⟨i, hi⟩).1
  rw [andK_eq, shrK_eq, wk_eq, Int.toNat_natCast]; exact this
theorem wk_zero {l : List Bool} (h : l.length = 7) : wkT l 7 = 0 ↔ l.any id = false := by
  obtain ⟨a, b, c, d, e, f, g, rfl⟩ := seven h
  have := (wk_all a b c d e f g ⟨0, by omega⟩).2.1
  rw [wk_eq, this]; simp [Bool.or_assoc]
def isO (l : List Bool) (d : Int) : Bool := l[(d % 7).toNat]?.getD false
def nxF (l : List Bool) : Nat → Int → Int
  | 0, d => d
  | f + 1, d => if isO l d then d else nxF l f (d + 1)
def nxO (l : List Bool) (d : Int) : Int := nxF l 7 d
theorem nxF_ge (l : List Bool) : ∀ (f : Nat) (d : Int), d ≤ nxF l f d ∧ nxF l f d ≤ d + f
  | 0, d => by simp [nxF]
  | f + 1, d => by
    simp only [nxF]; split
    · omega
    · have := nxF_ge l f (d + 1); push_cast; omega
theorem nxF_hit (l : List Bool) : ∀ (f : Nat) (d : Int) (k : Nat), k < f → isO l (d + k) = true → isO l (nxF l f d) = true
  | 0, _, k, h, _ => by omega
  | f + 1, d, k, h, hk => by
    simp only [nxF]; split
    · assumption
    · rename_i hn
      cases k with
      | zero => simp at hk; exact absurd hk hn
      | succ k => exact nxF_hit l f (d + 1) k (by omega) (by push_cast at hk; rw [Int.add_assoc, Int.add_comm 1]; exact hk)
theorem any_hit {l : List Bool} (h7 : l.length = 7) (h : l.any id = true) (d : Int) : ∃ k : Nat, k < 7 ∧ isO l (d + k) = true := by
  rw [List.any_eq_true] at h
  obtain ⟨b, hb, hbt⟩ := h
  obtain ⟨i, hi, rfl⟩ := List.mem_iff_getElem.1 hb
  refine ⟨((i - d) % 7).toNat, by omega, ?_⟩
  have e : (d + (((i - d) % 7).toNat : Int)) % 7 = i := by omega
  rw [isO, e]; simp only [Int.toNat_natCast]
  rw [List.getElem?_eq_getElem hi]; exact hbt
theorem nxO_hit {l : List Bool} (h7 : l.length = 7) (h : l.any id = true) (d : Int) : isO l (nxO l d) = true := by
  obtain ⟨k, hk, hk2⟩ := any_hit h7 h d
  exact nxF_hit l 7 d k hk hk2
theorem nxF_more (l : List Bool) : ∀ (f : Nat) (d : Int), isO l (nxF l f d) = true → nxF l (f + 1) d = nxF l f d
  | 0, d, h => by simp only [nxF] at h ⊢; rw [if_pos h]
  | f + 1, d, h => by
    rw [nxF]; conv => rhs; rw [nxF]
    simp only [nxF] at h
    split
    · rfl
    · rename_i hn
      rw [if_neg hn] at h
      exact nxF_more l f (d + 1) h
theorem nxO_at {l : List Bool} (h7 : l.length = 7) (h : l.any id = true) (d : Int) : nxO l d = if isO l d then d else nxO l (d + 1) := by
  have h1 := nxF_more l 7 d (nxO_hit h7 h d)
  rw [nxO, ← h1, nxF]; rfl
theorem nxO_ge (l : List Bool) (d : Int) : d ≤ nxO l d ∧ nxO l d ≤ d + 7 := nxF_ge l 7 d
def isCal (l : List Bool) : Bool := decide (l.length = 7) && l.any id
/-- loop.example/g03007/impl.weekOf -/
noncomputable def c102 : Con := mkCon 102 false (α := (List Bool)) (fun x => (fun (l : List Bool) => [encLB l]) x) (fun _ => []) (fun x => (fun (l : List Bool) => l.length ≤ 1099511627776) x) (fun x => (fun (l : List Bool) => (dU (wkT l l.length) : D)) x) (fun x => (fun (l : List Bool) => []) x)
@[simp] theorem c102_f : c102.f = 102 := rfl
@[simp] theorem c102_own : c102.own = false := rfl
theorem c102_inj : ∀ u_ v_ : (List Bool), ((fun x => (fun (l : List Bool) => [encLB l]) x) u_).map nz = ((fun x => (fun (l : List Bool) => [encLB l]) x) v_).map nz → u_ = v_ := by
  intro u_ v_ h
  obtain l := u_
  obtain l' := v_
  simp [nz_lit, nz1_lit, nz_agg, nz_sl, nz1_sl, encLB] at h
  first | (simp [h]; done) | (obtain ⟨⟩ := h; simp_all; done) | simp_all
@[simp] theorem c102_fn (l : List Bool) : c102.fn [.sl false 1 (.lit (.bool false)) (ML dB l)] [] = some ((fun (l : List Bool) => l.length ≤ 1099511627776) l, (fun (l : List Bool) => (dU (wkT l l.length) : D)) l, (fun (l : List Bool) => []) l) :=
  mkCon_fn (fun x y h _ => c102_inj x y h) (l : (List Bool)) (by simp [nz, nz1, ML_nil, encLB]) rfl
@[simp] theorem c102_fn1 (s_l : Nat) (z_l : D) : c102.fn [.sl false s_l z_l []] [] = some ((fun (l : List Bool) => l.length ≤ 1099511627776) [], (fun (l : List Bool) => (dU (wkT l l.length) : D)) [], (fun (l : List Bool) => []) []) :=
  mkCon_fn (fun x y h _ => c102_inj x y h) ([] : (List Bool)) (by simp [nz, nz1, ML_nil, encLB]) rfl
theorem c102_pc (l : List Bool) (hpre : l.length ≤ 1099511627776) : PCo Tryd.prog 102 [encLB l] (Tab.of []) (dU (wkT l l.length)) (Tab.of []) := by
  refine pco_of_run [] (E := ⟨[], []⟩) (m := false) (base := 0) Env.ok_nil G_ok mix 300 6 Tryd.func102 (by kernel_rfl) rfl (by kernel_rfl) (by kernel_rfl) rfl ?_
  simp [Tryd.f102]
  refine loop_inv (fun p : Nat => p ≤ l.length) (fun p => [(3, dU (wkT l p)), (6, encLB l), (7, dI l.length), (8, dI p)]) (fun _ => []) 1 (fun p => l.length - p) 0 400 (by simp) (by simp) (by simp [wkT]) ?_
  intro p hp
  simp [-binI, bAnd, bOr, bShl, bShr, bAdd, bSub, bMul, bQuo, bRem, bEql, bNeq, bLss, bLeq, bGtr, bGeq]
  refine ⟨fun hlt => ?_, fun hge => by have : p = l.length := by omega
                                       rw [this]⟩
  have hs : wkT l (p + 1) = if l[p]?.getD false then orK .u8 (wkT l p) (shlK .u8 1 p) else wkT l p := rfl
  cases hb : l[p]?.getD false with
  | true =>
    rw [hb] at hs; simp at hs
    simp
    repeat' (first | omega | refine And.intro ?_ ?_ | intro _)
    refine Again.mk (p + 1) (by omega) (by simp [hs]) (by first | omega | (simp; omega))
  | false =>
    rw [hb] at hs; simp at hs
    simp
    repeat' (first | omega | refine And.intro ?_ ?_ | intro _)
    refine Again.mk (p + 1) (by omega) (by simp [hs]) (by first | omega | (simp; omega))
theorem c102_ok : c102.ok Tryd.prog := mkCon_ok fun l hpre => c102_pc l hpre
theorem tm7 {d : Int} (h : 0 ≤ d) : d.tmod 7 = d % 7 := Int.tmod_eq_emod_of_nonneg h
/-- (loop.example/g03007/impl.week).has -/
noncomputable def c120 : Con := mkCon 120 false (α := Int × Int) (fun x => (fun (w : Int) (d : Int) => [dU w, dI d]) x.1 x.2) (fun _ => []) (fun x => (fun (w : Int) (d : Int) => 0 ≤ d ∧ d ≤ 1000000000) x.1 x.2) (fun x => (fun (w : Int) (d : Int) => (dB (decide (andK .u8 (shrK .u8 w (d % 7)) 1 = 1)) : D)) x.1 x.2) (fun x => (fun (w : Int) (d : Int) => []) x.1 x.2)
@[simp] theorem c120_f : c120.f = 120 := rfl
@[simp] theorem c120_own : c120.own = false := rfl
theorem c120_inj : ∀ u_ v_ : Int × Int, ((fun x => (fun (w : Int) (d : Int) => [dU w, dI d]) x.1 x.2) u_).map nz = ((fun x => (fun (w : Int) (d : Int) => [dU w, dI d]) x.1 x.2) v_).map nz → u_ = v_ := by
  intro u_ v_ h
  obtain ⟨w, d⟩ := u_
  obtain ⟨w', d'⟩ := v_
  simp [nz_lit, nz1_lit, nz_agg, nz_sl, nz1_sl] at h
  first | (simp [h]; done) | (obtain ⟨⟩ := h; simp_all; done) | simp_all
@[simp] theorem c120_fn (w : Int) (d : Int) : c120.fn [.lit (.int .u8 w), .lit (.int .i64 d)] [] = some ((fun (w : Int) (d : Int) => 0 ≤ d ∧ d ≤ 1000000000) w d, (fun (w : Int) (d : Int) => (dB (decide (andK .u8 (shrK .u8 w (d % 7)) 1 = 1)) : D)) w d, (fun (w : Int) (d : Int) => []) w d) :=
  mkCon_fn (fun x y h _ => c120_inj x y h) ((w, d) : Int × Int) (by simp [nz, nz1, ML_nil]) rfl
theorem c120_pc (w : Int) (d : Int) (hpre : 0 ≤ d ∧ d ≤ 1000000000) : PCo Tryd.prog 120 [dU w, dI d] (Tab.of []) (dB (decide (andK .u8 (shrK .u8 w (d % 7)) 1 = 1))) (Tab.of []) := by
  refine pco_of_run [] (E := ⟨[], []⟩) (m := false) (base := 0) Env.ok_nil G_ok mix 300 6 Tryd.func120 (by kernel_rfl) rfl (by kernel_rfl) (by kernel_rfl) rfl ?_
  have h7 := tm7 hpre.1
  simp [Tryd.f120, -binI, bAnd, bOr, bShl, bShr, bAdd, bSub, bMul, bQuo, bRem, bEql, bNeq, bLss, bLeq, bGtr, bGeq, h7]
  refine ⟨by omega, ?_⟩
  rw [Bool.eq_iff_iff]; simp
theorem c120_ok : c120.ok Tryd.prog := mkCon_ok fun ⟨w, d⟩ hpre => c120_pc w d hpre
theorem has_eq {l : List Bool} (h : l.length = 7) {d : Int} (hd : 0 ≤ d) : decide (andK .u8 (shrK .u8 (wkT l 7) (d % 7)) 1 = 1) = isO l d := by
  have := wk_has h (i := (d % 7).toNat) (by omega)
  rw [Int.toNat_of_nonneg (by omega)] at this
  rw [Bool.eq_iff_iff, decide_eq_true_eq, this]; rfl
theorem isCal_iff {l : List Bool} : isCal l = true ↔ l.length = 7 ∧ l.any id = true := by simp [isCal]
/-- loop.example/g03007/impl.IsCalendar -/
noncomputable def c82 : Con := mkCon 82 false (α := (List Bool)) (fun x => (fun (l : List Bool) => [encLB l]) x) (fun _ => []) (fun x => (fun (l : List Bool) => l.length ≤ 1099511627776) x) (fun x => (fun (l : List Bool) => (dB (isCal l) : D)) x) (fun x => (fun (l : List Bool) => []) x)
@[simp] theorem c82_f : c82.f = 82 := rfl
@[simp] theorem c82_own : c82.own = false := rfl
theorem c82_inj : ∀ u_ v_ : (List Bool), ((fun x => (fun (l : List Bool) => [encLB l]) x) u_).map nz = ((fun x => (fun (l : List Bool) => [encLB l]) x) v_).map nz → u_ = v_ := by
  intro u_ v_ h
  obtain l := u_
  obtain l' := v_
  simp [nz_lit, nz1_lit, nz_agg, nz_sl, nz1_sl, encLB] at h
  first | (simp [h]; done) | (obtain ⟨⟩ := h; simp_all; done) | simp_all
@[simp] theorem c82_fn (l : List Bool) : c82.fn [.sl false 1 (.lit (.bool false)) (ML dB l)] [] = some ((fun (l : List Bool) => l.length ≤ 1099511627776) l, (fun (l : List Bool) => (dB (isCal l) : D)) l, (fun (l : List Bool) => []) l) :=
  mkCon_fn (fun x y h _ => c82_inj x y h) (l : (List Bool)) (by simp [nz, nz1, ML_nil, encLB]) rfl
@[simp] theorem c82_fn1 (s_l : Nat) (z_l : D) : c82.fn [.sl false s_l z_l []] [] = some ((fun (l : List Bool) => l.length ≤ 1099511627776) [], (fun (l : List Bool) => (dB (isCal l) : D)) [], (fun (l : List Bool) => []) []) :=
  mkCon_fn (fun x y h _ => c82_inj x y h) ([] : (List Bool)) (by simp [nz, nz1, ML_nil, encLB]) rfl
theorem c82_pc (l : List Bool) (hpre : l.length ≤ 1099511627776) : PCo Tryd.prog 82 [encLB l] (Tab.of []) (dB (isCal l)) (Tab.of []) := by
  refine pco_of_run [] (E := ⟨[c102], []⟩) (m := false) (base := 0) (Env.ok_cons c102_ok Env.ok_nil) G_ok mix 300 6 Tryd.func82 (by kernel_rfl) rfl (by kernel_rfl) (by kernel_rfl) rfl ?_
  simp [Tryd.f82]
  refine ⟨fun _ => hpre, ?_⟩
  by_cases h : l.length = 7
  · have h2 := wk_zero h
    have e : ((l.length : Int) = 7) := by omega
    have e3 : (wkT l l.length != 0) = l.any id := by
      rw [h, Bool.eq_iff_iff, bne_iff_ne, ne_eq, h2]; simp
    have e4 : isCal l = l.any id := by simp [isCal, h]
    rw [e4, e3]; simp [e]
  · have e : ¬ ((l.length : Int) = 7) := by omega
    simp [isCal, h, e]
theorem c82_ok : c82.ok Tryd.prog := mkCon_ok fun l hpre => c82_pc l hpre
/-- loop.example/g03007/spec.IsCalendar -/
noncomputable def c81 : Con := mkCon 81 false (α := (List Bool)) (fun x => (fun (l : List Bool) => [encLB l]) x) (fun _ => []) (fun x => (fun (l : List Bool) => l.length ≤ 1099511627776) x) (fun x => (fun (l : List Bool) => (dB (isCal l) : D)) x) (fun x => (fun (l : List Bool) => []) x)
@[simp] theorem c81_f : c81.f = 81 := rfl
@[simp] theorem c81_own : c81.own = false := rfl
theorem c81_inj : ∀ u_ v_ : (List Bool), ((fun x => (fun (l : List Bool) => [encLB l]) x) u_).map nz = ((fun x => (fun (l : List Bool) => [encLB l]) x) v_).map nz → u_ = v_ := by
  intro u_ v_ h
  obtain l := u_
  obtain l' := v_
  simp [nz_lit, nz1_lit, nz_agg, nz_sl, nz1_sl, encLB] at h
  first | (simp [h]; done) | (obtain ⟨⟩ := h; simp_all; done) | simp_all
@[simp] theorem c81_fn (l : List Bool) : c81.fn [.sl false 1 (.lit (.bool false)) (ML dB l)] [] = some ((fun (l : List Bool) => l.length ≤ 1099511627776) l, (fun (l : List Bool) => (dB (isCal l) : D)) l, (fun (l : List Bool) => []) l) :=
  mkCon_fn (fun x y h _ => c81_inj x y h) (l : (List Bool)) (by simp [nz, nz1, ML_nil, encLB]) rfl
@[simp] theorem c81_fn1 (s_l : Nat) (z_l : D) : c81.fn [.sl false s_l z_l []] [] = some ((fun (l : List Bool) => l.length ≤ 1099511627776) [], (fun (l : List Bool) => (dB (isCal l) : D)) [], (fun (l : List Bool) => []) []) :=
  mkCon_fn (fun x y h _ => c81_inj x y h) ([] : (List Bool)) (by simp [nz, nz1, ML_nil, encLB]) rfl
theorem c81_pc (l : List Bool) (hpre : l.length ≤ 1099511627776) : PCo Tryd.prog 81 [encLB l] (Tab.of []) (dB (isCal l)) (Tab.of []) := by
  refine pco_of_run [] (E := ⟨[], []⟩) (m := false) (base := 0) Env.ok_nil G_ok mix 300 6 Tryd.func81 (by kernel_rfl) rfl (by kernel_rfl) (by kernel_rfl) rfl ?_
  simp [Tryd.f81]
  refine loop_inv (fun p : Nat => p ≤ l.length) (fun p => [(0, encLB l), (3, dB ((l.take p).any id)), (4, dI p)]) (fun _ => []) 1 (fun p => l.length - p) 0 400 (by simp) (by simp) (by simp) ?_
  intro p hp
  simp
  refine ⟨fun hlt => ?_, fun hge => ?_⟩
  · have ht := take_at (d := false) hlt
    repeat' (first | omega | refine And.intro ?_ ?_ | intro _)
    all_goals exact Again.mk (p + 1) (by omega) (by simp [ht]) (by first | omega | (simp; omega))
  · rw [List.take_of_length_le hge]
    have e : ((l.length : Int) == 7) = decide (l.length = 7) := by rw [Bool.eq_iff_iff]; simp; omega
    rw [e, isCal, Bool.and_comm]
theorem c81_ok : c81.ok Tryd.prog := mkCon_ok fun l hpre => c81_pc l hpre
def mNext (l : List Bool) (d : Int) : Int := if isCal l && mIn d 0 100000 then nxO l d else -1
/-- loop.example/g03007/spec.NextOpen -/
noncomputable def c78 : Con := mkCon 78 false (α := (List Bool) × Int) (fun x => (fun (l : List Bool) (d : Int) => [encLB l, dI d]) x.1 x.2) (fun _ => []) (fun x => (fun (l : List Bool) (d : Int) => l.length ≤ 1099511627776) x.1 x.2) (fun x => (fun (l : List Bool) (d : Int) => (dI (mNext l d) : D)) x.1 x.2) (fun x => (fun (l : List Bool) (d : Int) => []) x.1 x.2)
@[simp] theorem c78_f : c78.f = 78 := rfl
@[simp] theorem c78_own : c78.own = false := rfl
theorem c78_inj : ∀ u_ v_ : (List Bool) × Int, ((fun x => (fun (l : List Bool) (d : Int) => [encLB l, dI d]) x.1 x.2) u_).map nz = ((fun x => (fun (l : List Bool) (d : Int) => [encLB l, dI d]) x.1 x.2) v_).map nz → u_ = v_ := by
  intro u_ v_ h
  obtain ⟨l, d⟩ := u_
  obtain ⟨l', d'⟩ := v_
  simp [nz_lit, nz1_lit, nz_agg, nz_sl, nz1_sl, encLB] at h
  first | (simp [h]; done) | (obtain ⟨⟩ := h; simp_all; done) | simp_all
@[simp] theorem c78_fn (l : List Bool) (d : Int) : c78.fn [.sl false 1 (.lit (.bool false)) (ML dB l), .lit (.int .i64 d)] [] = some ((fun (l : List Bool) (d : Int) => l.length ≤ 1099511627776) l d, (fun (l : List Bool) (d : Int) => (dI (mNext l d) : D)) l d, (fun (l : List Bool) (d : Int) => []) l d) :=
  mkCon_fn (fun x y h _ => c78_inj x y h) ((l, d) : (List Bool) × Int) (by simp [nz, nz1, ML_nil, encLB]) rfl
@[simp] theorem c78_fn1 (s_l : Nat) (z_l : D) (d : Int) : c78.fn [.sl false s_l z_l [], .lit (.int .i64 d)] [] = some ((fun (l : List Bool) (d : Int) => l.length ≤ 1099511627776) [] d, (fun (l : List Bool) (d : Int) => (dI (mNext l d) : D)) [] d, (fun (l : List Bool) (d : Int) => []) [] d) :=
  mkCon_fn (fun x y h _ => c78_inj x y h) (([], d) : (List Bool) × Int) (by simp [nz, nz1, ML_nil, encLB]) rfl
theorem c78_pc (l : List Bool) (d : Int) (hpre : l.length ≤ 1099511627776) : PCo Tryd.prog 78 [encLB l, dI d] (Tab.of []) (dI (mNext l d)) (Tab.of []) := by
  refine pco_of_run [] (E := ⟨[c64, c81], []⟩) (m := false) (base := 0) (Env.ok_cons c64_ok (Env.ok_cons c81_ok Env.ok_nil)) G_ok mix 300 6 Tryd.func78 (by kernel_rfl) rfl (by kernel_rfl) (by kernel_rfl) rfl ?_
  by_cases h : (isCal l && mIn d 0 100000) = true
  · have hm : mNext l d = nxO l d := by rw [mNext, if_pos h]
    rw [Bool.and_eq_true] at h
    obtain ⟨h7, ha⟩ := isCal_iff.1 h.1
    have hd := mIn_iff.1 h.2
    have hge := nxO_ge l d
    simp [Tryd.f78, h.1, h.2, hm]
    refine ⟨hpre, ?_⟩
    refine loop_inv (fun q : Int => 0 ≤ q ∧ q ≤ nxO l d ∧ nxO l d = nxO l q) (fun q => [(0, encLB l), (1, dI q)]) (fun _ => []) 1 (fun q => (nxO l d - q).toNat) d 400 (by simp) (by simp; omega) (by simp) ?_
    intro q ⟨hq0, hq, hi⟩
    have ht := tm7 hq0
    have hn := nxO_at h7 ha q
    have hs : isO l q = l[(q % 7).toNat]?.getD false := rfl
    have hg2 := nxO_ge l (q + 1)
    simp [ht, ← hs]
    refine ⟨by omega, fun ho => ?_, fun ho => ?_⟩
    · rw [ho] at hn; simp at hn
      repeat' (first | omega | refine And.intro ?_ ?_ | intro _)
      exact Again.mk (q + 1) ⟨by omega, by omega, by omega⟩ (by simp) (by first | omega | (simp; omega))
    · rw [ho] at hn; simp at hn
      omega
  · have hm : mNext l d = -1 := by rw [mNext, if_neg h]
    simp [Tryd.f78, hm]
    refine ⟨hpre, fun h1 h2 => absurd (by rw [h1, h2]; rfl) h⟩
theorem c78_ok : c78.ok Tryd.prog := mkCon_ok fun ⟨l, d⟩ hpre => c78_pc l d hpre
noncomputable def isOw (w d : Int) : Bool := decide (andK .u8 (shrK .u8 w (d % 7)) 1 = 1)
noncomputable def nxFw (w : Int) : Nat → Int → Int
  | 0, d => d
  | f + 1, d => if isOw w d then d else nxFw w f (d + 1)
noncomputable def nxOw (w d : Int) : Int := nxFw w 7 d
theorem nxFw_eq {l : List Bool} (h : l.length = 7) : ∀ (f : Nat) (d : Int), 0 ≤ d → nxFw (wkT l 7) f d = nxF l f d
  | 0, d, _ => rfl
  | f + 1, d, hd => by
    have he : isOw (wkT l 7) d = isO l d := has_eq h hd
    simp only [nxFw, nxF, he, nxFw_eq h f (d + 1) (by omega)]
theorem nxOw_eq {l : List Bool} (h : l.length = 7) {d : Int} (hd : 0 ≤ d) : nxOw (wkT l 7) d = nxO l d := nxFw_eq h 7 d hd
/-- loop.example/g03007/impl.openDaysFrom -/
noncomputable def c101 : Con := mkCon 101 false (α := (List Bool) × Int) (fun x => (fun (l : List Bool) (d : Int) => [encLB l, dI d]) x.1 x.2) (fun _ => []) (fun x => (fun (l : List Bool) (d : Int) => l.length ≤ 1099511627776) x.1 x.2) (fun x => (fun (l : List Bool) (d : Int) => (.fn (.func 119) [] [.ptr (0, 1) 0, .ptr (1, 1) 0] : D)) x.1 x.2) (fun x => (fun (l : List Bool) (d : Int) => [((0, 1), .box (dU (wkT l l.length))), ((1, 1), .box (dI d))]) x.1 x.2)
@[simp] theorem c101_f : c101.f = 101 := rfl
@[simp] theorem c101_own : c101.own = false := rfl
theorem c101_inj : ∀ u_ v_ : (List Bool) × Int, ((fun x => (fun (l : List Bool) (d : Int) => [encLB l, dI d]) x.1 x.2) u_).map nz = ((fun x => (fun (l : List Bool) (d : Int) => [encLB l, dI d]) x.1 x.2) v_).map nz → u_ = v_ := by
  intro u_ v_ h
  obtain ⟨l, d⟩ := u_
  obtain ⟨l', d'⟩ := v_
  simp [nz_lit, nz1_lit, nz_agg, nz_sl, nz1_sl, encLB] at h
  first | (simp [h]; done) | (obtain ⟨⟩ := h; simp_all; done) | simp_all
@[simp] theorem c101_fn (l : List Bool) (d : Int) : c101.fn [.sl false 1 (.lit (.bool false)) (ML dB l), .lit (.int .i64 d)] [] = some ((fun (l : List Bool) (d : Int) => l.length ≤ 1099511627776) l d, (fun (l : List Bool) (d : Int) => (.fn (.func 119) [] [.ptr (0, 1) 0, .ptr (1, 1) 0] : D)) l d, (fun (l : List Bool) (d : Int) => [((0, 1), .box (dU (wkT l l.length))), ((1, 1), .box (dI d))]) l d) :=
  mkCon_fn (fun x y h _ => c101_inj x y h) ((l, d) : (List Bool) × Int) (by simp [nz, nz1, ML_nil, encLB]) rfl
@[simp] theorem c101_fn1 (s_l : Nat) (z_l : D) (d : Int) : c101.fn [.sl false s_l z_l [], .lit (.int .i64 d)] [] = some ((fun (l : List Bool) (d : Int) => l.length ≤ 1099511627776) [] d, (fun (l : List Bool) (d : Int) => (.fn (.func 119) [] [.ptr (0, 1) 0, .ptr (1, 1) 0] : D)) [] d, (fun (l : List Bool) (d : Int) => [((0, 1), .box (dU (wkT l l.length))), ((1, 1), .box (dI d))]) [] d) :=
  mkCon_fn (fun x y h _ => c101_inj x y h) (([], d) : (List Bool) × Int) (by simp [nz, nz1, ML_nil, encLB]) rfl
theorem c101_pc (l : List Bool) (d : Int) (hpre : l.length ≤ 1099511627776) : PCo Tryd.prog 101 [encLB l, dI d] (Tab.of []) (.fn (.func 119) [] [.ptr (0, 1) 0, .ptr (1, 1) 0]) (Tab.of [((0, 1), .box (dU (wkT l l.length))), ((1, 1), .box (dI d))]) := by
  refine pco_of_run [] (E := ⟨[c102], []⟩) (m := false) (base := 0) (Env.ok_cons c102_ok Env.ok_nil) G_ok mix 300 6 Tryd.func101 (by kernel_rfl) rfl (by kernel_rfl) (by kernel_rfl) rfl ?_
  simp [Tryd.f101]
  exact hpre
theorem c101_ok : c101.ok Tryd.prog := mkCon_ok fun ⟨l, d⟩ hpre => c101_pc l d hpre
/-- loop.example/g03007/impl.openDaysFrom$1 -/
noncomputable def c119 : Con := mkCon 119 true (α := Int × Int) (fun x => (fun (w : Int) (d : Int) => ([.ptr (0, 0) 0, .ptr (1, 0) 0] : List D)) x.1 x.2) (fun x => (fun (w : Int) (d : Int) => ([((0, 0), .box (dU w)), ((1, 0), .box (dI d))] : List (Nm × OO))) x.1 x.2) (fun x => (fun (w : Int) (d : Int) => (∃ l, isCal l = true ∧ w = wkT l 7) ∧ 0 ≤ d ∧ d ≤ 1000000) x.1 x.2) (fun x => (fun (w : Int) (d : Int) => (dI (nxOw w d) : D)) x.1 x.2) (fun x => (fun (w : Int) (d : Int) => ([((0, 0), .box (dU w)), ((1, 0), .box (dI (nxOw w d + 1)))] : List (Nm × OO))) x.1 x.2)
@[simp] theorem c119_f : c119.f = 119 := rfl
@[simp] theorem c119_own : c119.own = true := rfl
theorem c119_inj : ∀ u_ v_ : Int × Int, ((fun x => (fun (w : Int) (d : Int) => ([.ptr (0, 0) 0, .ptr (1, 0) 0] : List D)) x.1 x.2) u_).map nz = ((fun x => (fun (w : Int) (d : Int) => ([.ptr (0, 0) 0, .ptr (1, 0) 0] : List D)) x.1 x.2) v_).map nz → (fun x => (fun (w : Int) (d : Int) => ([((0, 0), .box (dU w)), ((1, 0), .box (dI d))] : List (Nm × OO))) x.1 x.2) u_ = (fun x => (fun (w : Int) (d : Int) => ([((0, 0), .box (dU w)), ((1, 0), .box (dI d))] : List (Nm × OO))) x.1 x.2) v_ → u_ = v_ := by
  intro u_ v_ h h2_
  obtain ⟨w, d⟩ := u_
  obtain ⟨w', d'⟩ := v_
  simp [nz_lit, nz1_lit, nz_agg, nz_sl, nz1_sl, nz_sx, nz_el, nz1_el, nz_own, nz1_own, nz_ptr, nz_fn, nz_iface] at h h2_
  first | (simp [h, h2_]; done) | (obtain ⟨h3_, h4_⟩ := List.append_inj h2_ h.1; simp_all; done) | simp_all | grind
@[simp] theorem c119_fn (w : Int) (d : Int) : c119.fn ([.ptr (0, 0) 0, .ptr (1, 0) 0]) ([((0, 0), .box (dU w)), ((1, 0), .box (dI d))]) = some ((∃ l, isCal l = true ∧ w = wkT l 7) ∧ 0 ≤ d ∧ d ≤ 1000000, dI (nxOw w d), [((0, 0), .box (dU w)), ((1, 0), .box (dI (nxOw w d + 1)))]) :=
  mkCon_fn c119_inj ((w, d) : Int × Int) rfl rfl
theorem c119_pc (w : Int) (d : Int) (hpre : (∃ l, isCal l = true ∧ w = wkT l 7) ∧ 0 ≤ d ∧ d ≤ 1000000) : PCo Tryd.prog 119 ([.ptr (0, 0) 0, .ptr (1, 0) 0]) (Tab.of ([((0, 0), .box (dU w)), ((1, 0), .box (dI d))])) (dI (nxOw w d)) (Tab.of ([((0, 0), .box (dU w)), ((1, 0), .box (dI (nxOw w d + 1)))])) := by
  refine pco_of_run [] (E := ⟨[c120], []⟩) (m := false) (base := 0) (Env.ok_cons c120_ok Env.ok_nil) G_ok mix 300 6 Tryd.func119 (by kernel_rfl) rfl (by kernel_rfl) (by kernel_rfl) rfl ?_
  simp [Tryd.f119]
  obtain ⟨⟨l, hl, rfl⟩, hd0, hd1⟩ := hpre
  obtain ⟨h7, ha⟩ := isCal_iff.1 hl
  have hge := nxO_ge l d
  simp only [nxOw_eq h7 hd0]
  refine loop_inv (fun q : Int => 0 ≤ q ∧ q ≤ nxO l d ∧ nxO l d = nxO l q) (fun q => [(0, .ptr (0, 0) 0), (1, .ptr (1, 0) 0)]) (fun q => [((0, 0), .box (dU (wkT l 7))), ((1, 0), .box (dI q))]) 2 (fun q => (nxO l d - q).toNat) d 400 (by simp) (by simp; omega) (by simp) ?_
  intro q ⟨hq0, hq, hi⟩
  have he := has_eq h7 hq0
  have hn := nxO_at h7 ha q
  have hg2 := nxO_ge l (q + 1)
  simp [he]
  refine ⟨by omega, fun ho => ?_, fun ho => ?_⟩
  · rw [ho] at hn; simp at hn
    repeat' (first | omega | refine And.intro ?_ ?_ | intro _)
    exact Again.mk (q + 1) ⟨by omega, by omega, by omega⟩ (by simp) (by first | omega | (simp; omega))
  · rw [ho] at hn; simp at hn
    repeat' (first | omega | refine And.intro ?_ ?_ | intro _)
theorem c119_ok : c119.ok Tryd.prog := mkCon_ok fun ⟨w, d⟩ hpre => c119_pc w d hpre
/-- loop.example/g03007/impl.NextOpen -/
noncomputable def c79 : Con := mkCon 79 false (α := (List Bool) × Int) (fun x => (fun (l : List Bool) (d : Int) => [encLB l, dI d]) x.1 x.2) (fun _ => []) (fun x => (fun (l : List Bool) (d : Int) => l.length ≤ 1099511627776) x.1 x.2) (fun x => (fun (l : List Bool) (d : Int) => (dI (mNext l d) : D)) x.1 x.2) (fun x => (fun (l : List Bool) (d : Int) => []) x.1 x.2)
@[simp] theorem c79_f : c79.f = 79 := rfl
@[simp] theorem c79_own : c79.own = false := rfl
theorem c79_inj : ∀ u_ v_ : (List Bool) × Int, ((fun x => (fun (l : List Bool) (d : Int) => [encLB l, dI d]) x.1 x.2) u_).map nz = ((fun x => (fun (l : List Bool) (d : Int) => [encLB l, dI d]) x.1 x.2) v_).map nz → u_ = v_ := by
  intro u_ v_ h
  obtain ⟨l, d⟩ := u_
  obtain ⟨l', d'⟩ := v_
  simp [nz_lit, nz1_lit, nz_agg, nz_sl, nz1_sl, encLB] at h
  first | (simp [h]; done) | (obtain ⟨⟩ := h; simp_all; done) | simp_all
@[simp] theorem c79_fn (l : List Bool) (d : Int) : c79.fn [.sl false 1 (.lit (.bool false)) (ML dB l), .lit (.int .i64 d)] [] = some ((fun (l : List Bool) (d : Int) => l.length ≤ 1099511627776) l d, (fun (l : List Bool) (d : Int) => (dI (mNext l d) : D)) l d, (fun (l : List Bool) (d : Int) => []) l d) :=
  mkCon_fn (fun x y h _ => c79_inj x y h) ((l, d) : (List Bool) × Int) (by simp [nz, nz1, ML_nil, encLB]) rfl
@[simp] theorem c79_fn1 (s_l : Nat) (z_l : D) (d : Int) : c79.fn [.sl false s_l z_l [], .lit (.int .i64 d)] [] = some ((fun (l : List Bool) (d : Int) => l.length ≤ 1099511627776) [] d, (fun (l : List Bool) (d : Int) => (dI (mNext l d) : D)) [] d, (fun (l : List Bool) (d : Int) => []) [] d) :=
  mkCon_fn (fun x y h _ => c79_inj x y h) (([], d) : (List Bool) × Int) (by simp [nz, nz1, ML_nil, encLB]) rfl
theorem c79_pc (l : List Bool) (d : Int) (hpre : l.length ≤ 1099511627776) : PCo Tryd.prog 79 [encLB l, dI d] (Tab.of []) (dI (mNext l d)) (Tab.of []) := by
  refine pco_of_run [] (E := ⟨[c65, c82, c101, c119], []⟩) (m := false) (base := 0) (Env.ok_cons c65_ok (Env.ok_cons c82_ok (Env.ok_cons c101_ok (Env.ok_cons c119_ok Env.ok_nil)))) G_ok mix 300 6 Tryd.func79 (by kernel_rfl) rfl (by kernel_rfl) (by kernel_rfl) rfl ?_
  by_cases h : (isCal l && mIn d 0 100000) = true
  · have hm : mNext l d = nxO l d := by rw [mNext, if_pos h]
    rw [Bool.and_eq_true] at h
    obtain ⟨h7, ha⟩ := isCal_iff.1 h.1
    have hd := mIn_iff.1 h.2
    have e2 : wkT l l.length = wkT l 7 := by rw [h7]
    have e3 := nxOw_eq h7 hd.1
    simp [Tryd.f79, h.1, h.2, hm, e2, e3]
    exact ⟨hpre, ⟨l, h.1, rfl⟩, by omega, by omega⟩
  · have hm : mNext l d = -1 := by rw [mNext, if_neg h]
    simp [Tryd.f79, hm]
    refine ⟨hpre, fun h1 h2 => absurd (by rw [h1, h2]; rfl) h⟩
theorem c79_ok : c79.ok Tryd.prog := mkCon_ok fun ⟨l, d⟩ hpre => c79_pc l d hpre
def addD (l : List Bool) : Nat → Int → Int
  | 0, d => d
  | k + 1, d => nxO l (addD l k d + 1)
theorem addD_bd (l : List Bool) (d : Int) : ∀ k : Nat, d + k ≤ addD l k d ∧ addD l k d ≤ d + 8 * k
  | 0 => by simp [addD]
  | k + 1 => by
    have h1 := addD_bd l d k
    have h2 := nxO_ge l (addD l k d + 1)
    simp only [addD]; omega
theorem addD_mono (l : List Bool) (d : Int) (k : Nat) : ∀ j : Nat, addD l k d + j ≤ addD l (k + j) d
  | 0 => by simp
  | j + 1 => by
    have h1 := addD_mono l d k j
    have h2 := nxO_ge l (addD l (k + j) d + 1)
    rw [show k + (j + 1) = (k + j) + 1 from rfl, addD]; omega
def mAddD (l : List Bool) (d n : Int) : Int := if isCal l && mIn d 0 100000 && mIn n 0 1000 then (if n = 0 then nxO l d else addD l n.toNat d) else -1
end Go.Proofs.YtobofamoagbacaaDoor
