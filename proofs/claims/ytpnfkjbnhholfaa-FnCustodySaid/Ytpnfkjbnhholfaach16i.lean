/- Contracts of the functions that the laws run. -/
import Derived.Test.Ytpnfkjbnhholfaach16g
import Derived.Test.YtpnfkjbnhholfaaEngB
namespace Go.Proofs.Ytpnfkjbnhholfaa
open Go Go.Eng
set_option linter.unusedSimpArgs false
set_option linter.unusedVariables false
set_option maxRecDepth 10000
set_option maxHeartbeats 1000000
def mIsHand (x : THand) : Bool := mIn x.Thing 1 999 && mIn x.Holder 1 5 && mIn x.Who 0 999 && mIn x.At 0 100000
/-- loop.example/g03007/impl.isHand -/
noncomputable def c127 : Con := mkCon 127 false (α := THand) (fun x => (fun (x : THand) => [encTHand x]) x) (fun _ => []) (fun x => (fun (x : THand) => True) x) (fun x => (fun (x : THand) => (dB (mIsHand x) : D)) x) (fun x => (fun (x : THand) => []) x)
@[simp] theorem c127_f : c127.f = 127 := rfl
@[simp] theorem c127_own : c127.own = false := rfl
theorem c127_inj : ∀ u_ v_ : THand, ((fun x => (fun (x : THand) => [encTHand x]) x) u_).map nz = ((fun x => (fun (x : THand) => [encTHand x]) x) v_).map nz → u_ = v_ := by
  intro u_ v_ h
  obtain ⟨x_Thing, x_Holder, x_Who, x_At, x_Seal⟩ := u_
  obtain ⟨x_Thing', x_Holder', x_Who', x_At', x_Seal'⟩ := v_
  simp [nz_lit, nz1_lit, nz_agg, nz_sl, nz1_sl, encTHand] at h
  first | (simp [h]; done) | (obtain ⟨⟩ := h; simp_all; done) | simp_all
@[simp] theorem c127_fn (x_Thing : Int) (x_Holder : Int) (x_Who : Int) (x_At : Int) (x_Seal : Int) : c127.fn [.agg [.lit (.int .i64 x_Thing), .lit (.int .i64 x_Holder), .lit (.int .i64 x_Who), .lit (.int .i64 x_At), .lit (.int .i64 x_Seal)]] [] = some ((fun (x : THand) => True) ⟨x_Thing, x_Holder, x_Who, x_At, x_Seal⟩, (fun (x : THand) => (dB (mIsHand x) : D)) ⟨x_Thing, x_Holder, x_Who, x_At, x_Seal⟩, (fun (x : THand) => []) ⟨x_Thing, x_Holder, x_Who, x_At, x_Seal⟩) :=
  mkCon_fn (fun x y h _ => c127_inj x y h) (⟨x_Thing, x_Holder, x_Who, x_At, x_Seal⟩ : THand) (by simp [nz, nz1, ML_nil, encTHand]) rfl
theorem c127_pc (x : THand) : PCo Try.prog 127 [encTHand x] (Tab.of []) (dB (mIsHand x)) (Tab.of []) := by
  obtain ⟨x_Thing, x_Holder, x_Who, x_At, x_Seal⟩ := x
  refine pco_of_run [] (E := ⟨[c84], [], []⟩) (m := false) (base := 0) (Env.ok_cons c84_ok Env.ok_nil) G_ok mix 300 6 Try.func127 (by kernel_rfl) rfl (by kernel_rfl) (by kernel_rfl) rfl ?_
  simp [Try.f127]
  simp [mIsHand]; first | done | first | rfl | omega | (rw [Bool.eq_iff_iff]; simp; done) | (rw [Bool.eq_iff_iff]; simp; omega) | (rw [Bool.eq_iff_iff]; simp; grind) | grind
theorem c127_ok : c127.ok Try.prog := mkCon_ok fun x hpre => c127_pc x
def mFollow : List THand → THand → Bool
  | [], x => decide (x.Holder = 1) || decide (x.Holder = 2)
  | y :: _, x => decide (y.Holder ≤ 2) && !decide (x.Holder = 1)
/-- loop.example/g03007/impl.mayFollow -/
noncomputable def c128 : Con := mkCon 128 false (α := (List THand) × THand) (fun x => (fun (r : List THand) (x : THand) => ([linkR r, encTHand x] : List D)) x.1 x.2) (fun x => (fun (r : List THand) (x : THand) => ([] : List (Nm × OO))) x.1 x.2) (fun x => (fun (r : List THand) (x : THand) => True) x.1 x.2) (fun x => (fun (r : List THand) (x : THand) => (dB (mFollow r x) : D)) x.1 x.2) (fun x => (fun (r : List THand) (x : THand) => ([] : List (Nm × OO))) x.1 x.2)
@[simp] theorem c128_f : c128.f = 128 := rfl
@[simp] theorem c128_own : c128.own = false := rfl
theorem c128_inj : ∀ u_ v_ : (List THand) × THand, ((fun x => (fun (r : List THand) (x : THand) => ([linkR r, encTHand x] : List D)) x.1 x.2) u_).map nz = ((fun x => (fun (r : List THand) (x : THand) => ([linkR r, encTHand x] : List D)) x.1 x.2) v_).map nz → (fun x => (fun (r : List THand) (x : THand) => ([] : List (Nm × OO))) x.1 x.2) u_ = (fun x => (fun (r : List THand) (x : THand) => ([] : List (Nm × OO))) x.1 x.2) v_ → u_ = v_ := by
  intro u_ v_ h h2_
  obtain ⟨r, ⟨x_Thing, x_Holder, x_Who, x_At, x_Seal⟩⟩ := u_
  obtain ⟨r', ⟨x_Thing', x_Holder', x_Who', x_At', x_Seal'⟩⟩ := v_
  simp [nz_lit, nz1_lit, nz_agg, nz_sl, nz1_sl, nz_sx, nz_el, nz1_el, nz_own, nz1_own, nz_ptr, nz_fn, nz_iface] at h h2_
  first | (simp [h, h2_]; done) | (obtain ⟨h3_, h4_⟩ := List.append_inj h2_ h.1; simp_all; done) | simp_all | grind
@[simp] theorem c128_fn (r : List THand) (x_Thing : Int) (x_Holder : Int) (x_Who : Int) (x_At : Int) (x_Seal : Int) : c128.fn ([linkR r, .agg [.lit (.int .i64 x_Thing), .lit (.int .i64 x_Holder), .lit (.int .i64 x_Who), .lit (.int .i64 x_At), .lit (.int .i64 x_Seal)]]) ([]) = some (True, dB (mFollow r (⟨x_Thing, x_Holder, x_Who, x_At, x_Seal⟩ : THand)), []) :=
  mkCon_fn c128_inj ((r, ⟨x_Thing, x_Holder, x_Who, x_At, x_Seal⟩) : (List THand) × THand) rfl rfl
theorem c128_pc (r : List THand) (x : THand) : PCo Try.prog 128 ([linkR r, encTHand x]) (Tab.of ([])) (dB (mFollow r x)) (Tab.of ([])) := by
  refine pco_of_run [] (E := ⟨[], [], []⟩) (m := false) (base := 0) Env.ok_nil G_ok mix 300 6 Try.func128 (by kernel_rfl) rfl (by kernel_rfl) (by kernel_rfl) rfl ?_
  cases r with
  | nil =>
    simp [Try.f128, linkR_nil, mFollow]
    first | done | first | rfl | omega | (rw [Bool.eq_iff_iff]; simp; done) | (rw [Bool.eq_iff_iff]; simp; omega) | (rw [Bool.eq_iff_iff]; simp; grind) | grind
  | cons y t =>
    simp [Try.f128, linkR_cons, mFollow]
    first | done | first | rfl | omega | (rw [Bool.eq_iff_iff]; simp; done) | (rw [Bool.eq_iff_iff]; simp; omega) | (rw [Bool.eq_iff_iff]; simp; grind) | grind
theorem c128_ok : c128.ok Try.prog := mkCon_ok fun ⟨r, x⟩ hpre => c128_pc r x
@[simp] theorem mf_nil (a b c d e : Int) : c128.fn [.lit (.pointer none), .agg [.lit (.int .i64 a), .lit (.int .i64 b), .lit (.int .i64 c), .lit (.int .i64 d), .lit (.int .i64 e)]] [] = some (True, dB (mFollow [] ⟨a, b, c, d, e⟩), []) := c128_fn [] a b c d e
@[simp] theorem mf_cons (q r s u v : Int) (t : List THand) (a b c d e : Int) : c128.fn [.el (.agg [.lit (.int .i64 q), .lit (.int .i64 r), .lit (.int .i64 s), .lit (.int .i64 u), .lit (.int .i64 v), linkR t]), .agg [.lit (.int .i64 a), .lit (.int .i64 b), .lit (.int .i64 c), .lit (.int .i64 d), .lit (.int .i64 e)]] [] = some (True, dB (mFollow (⟨q, r, s, u, v⟩ :: t) ⟨a, b, c, d, e⟩), []) := c128_fn (⟨q, r, s, u, v⟩ :: t) a b c d e
def lastH (l : List THand) : THand := l.getLast?.getD ⟨0, 0, 0, 0, 0⟩
/-- loop.example/g03007/impl.lastSeal -/
noncomputable def c124 : Con := mkCon 124 false (α := (List THand)) (fun x => (fun (l : List THand) => [encLTHand l]) x) (fun _ => []) (fun x => (fun (l : List THand) => l.length ≤ 1099511627776) x) (fun x => (fun (l : List THand) => (dI (lastH l).Seal : D)) x) (fun x => (fun (l : List THand) => []) x)
@[simp] theorem c124_f : c124.f = 124 := rfl
@[simp] theorem c124_own : c124.own = false := rfl
theorem c124_inj : ∀ u_ v_ : (List THand), ((fun x => (fun (l : List THand) => [encLTHand l]) x) u_).map nz = ((fun x => (fun (l : List THand) => [encLTHand l]) x) v_).map nz → u_ = v_ := by
  intro u_ v_ h
  obtain l := u_
  obtain l' := v_
  simp [nz_lit, nz1_lit, nz_agg, nz_sl, nz1_sl, encLTHand] at h
  first | (simp [h]; done) | (obtain ⟨⟩ := h; simp_all; done) | simp_all
@[simp] theorem c124_fn (l : List THand) : c124.fn [.sl false 5 yTHand (ML encTHand l)] [] = some ((fun (l : List THand) => l.length ≤ 1099511627776) l, (fun (l : List THand) => (dI (lastH l).Seal : D)) l, (fun (l : List THand) => []) l) :=
  mkCon_fn (fun x y h _ => c124_inj x y h) (l : (List THand)) (by simp [nz, nz1, ML_nil, encLTHand]) rfl
@[simp] theorem c124_fn1 (s_l : Nat) (z_l : D) : c124.fn [.sl false s_l z_l []] [] = some ((fun (l : List THand) => l.length ≤ 1099511627776) [], (fun (l : List THand) => (dI (lastH l).Seal : D)) [], (fun (l : List THand) => []) []) :=
  mkCon_fn (fun x y h _ => c124_inj x y h) ([] : (List THand)) (by simp [nz, nz1, ML_nil, encLTHand]) rfl
theorem c124_pc (l : List THand) (hpre : l.length ≤ 1099511627776) : PCo Try.prog 124 [encLTHand l] (Tab.of []) (dI (lastH l).Seal) (Tab.of []) := by
  refine pco_of_run [] (E := ⟨[], [], []⟩) (m := false) (base := 0) Env.ok_nil G_ok mix 300 6 Try.func124 (by kernel_rfl) rfl (by kernel_rfl) (by kernel_rfl) rfl ?_
  simp [Try.f124]
  refine ⟨fun h => by subst h; rfl, fun h => ⟨⟨by omega, ?_⟩, ?_⟩⟩
  · have := List.length_pos_iff.2 h; omega
  · rw [lastH, List.getLast?_eq_getElem?]; have h2 : l.length - 1 < l.length := by have := List.length_pos_iff.2 h; omega
    simp [h2]
theorem c124_ok : c124.ok Try.prog := mkCon_ok fun l hpre => c124_pc l hpre
def thH (k : Int) (x : THand) : Bool := decide (kHd x = k)
theorem bkH_get (l : List THand) (k : Int) : getG (bkH l) k = l.filter (thH k) := by rw [bkH, getG_grp]; rfl
def chainB : List THand → List THand → Bool
  | _, [] => true
  | b, x :: r => mIsHand x && decide ((lastH b).At ≤ x.At) && decide (x.Seal = mHandSeal (lastH b).Seal x) && mFollow (b.filter (thH x.Thing)).reverse x && chainB (b ++ [x]) r
def mIsChain (l : List THand) : Bool := decide (l.length ≤ 100) && chainB [] l
theorem chainB_at {l : List THand} {p : Nat} (h : p < l.length) : chainB (l.take p) (l.drop p) = (mIsHand (l[p]?.getD default) && decide ((lastH (l.take p)).At ≤ (l[p]?.getD default).At) && decide ((l[p]?.getD default).Seal = mHandSeal (lastH (l.take p)).Seal (l[p]?.getD default)) && mFollow ((l.take p).filter (thH (l[p]?.getD default).Thing)).reverse (l[p]?.getD default) && chainB (l.take (p + 1)) (l.drop (p + 1))) := by
  rw [drop_at (d := default) h, chainB, take_at (d := default) h]
theorem lastH_take {l : List THand} {p : Nat} (h : p < l.length) : lastH (l.take (p + 1)) = l[p]?.getD default := by
  rw [take_at (d := default) h, lastH, List.getLast?_concat]; rfl
@[simp] theorem lastH_nil : lastH [] = ⟨0, 0, 0, 0, 0⟩ := rfl
theorem chain_bad {l : List THand} {p : Nat} {f : Bool} (hi : chainB [] l = chainB (l.take p) (l.drop p)) (hs : chainB (l.take p) (l.drop p) = (mIsHand (l[p]?.getD default) && decide ((lastH (l.take p)).At ≤ (l[p]?.getD default).At) && decide ((l[p]?.getD default).Seal = mHandSeal (lastH (l.take p)).Seal (l[p]?.getD default)) && f && chainB (l.take (p + 1)) (l.drop (p + 1))))
    (h : ((mIsHand (l[p]?.getD default) = false ∨ (l[p]?.getD default).At < (lastH (l.take p)).At) ∨ ¬(l[p]?.getD default).Seal = mHandSeal (lastH (l.take p)).Seal (l[p]?.getD default)) ∨ f = false) : mIsChain l = false := by
  have : chainB [] l = false := by
    rw [hi, hs]
    rcases h with ((h | h) | h) | h
    · simp [h]
    · have : ¬ (lastH (l.take p)).At ≤ (l[p]?.getD default).At := by omega
      simp [this]
    · simp [h]
    · simp [h]
  simp [mIsChain, this]
theorem chain_end {l : List THand} {p : Nat} (hi : chainB [] l = chainB (l.take p) (l.drop p)) (h : l.length ≤ p) (h2 : (l.length : Int) ≤ 100) : mIsChain l = true := by
  have h3 : chainB (l.take p) (l.drop p) = true := by rw [List.drop_eq_nil_of_le h]; rfl
  simp [mIsChain, hi, h3]; omega
/-- loop.example/g03007/impl.IsChain -/
noncomputable def c52 : Con := mkCon 52 false (α := (List THand)) (fun x => (fun (l : List THand) => [encLTHand l]) x) (fun _ => []) (fun x => (fun (l : List THand) => l.length ≤ 1099511627776) x) (fun x => (fun (l : List THand) => (dB (mIsChain l) : D)) x) (fun x => (fun (l : List THand) => []) x)
@[simp] theorem c52_f : c52.f = 52 := rfl
@[simp] theorem c52_own : c52.own = false := rfl
theorem c52_inj : ∀ u_ v_ : (List THand), ((fun x => (fun (l : List THand) => [encLTHand l]) x) u_).map nz = ((fun x => (fun (l : List THand) => [encLTHand l]) x) v_).map nz → u_ = v_ := by
  intro u_ v_ h
  obtain l := u_
  obtain l' := v_
  simp [nz_lit, nz1_lit, nz_agg, nz_sl, nz1_sl, encLTHand] at h
  first | (simp [h]; done) | (obtain ⟨⟩ := h; simp_all; done) | simp_all
@[simp] theorem c52_fn (l : List THand) : c52.fn [.sl false 5 yTHand (ML encTHand l)] [] = some ((fun (l : List THand) => l.length ≤ 1099511627776) l, (fun (l : List THand) => (dB (mIsChain l) : D)) l, (fun (l : List THand) => []) l) :=
  mkCon_fn (fun x y h _ => c52_inj x y h) (l : (List THand)) (by simp [nz, nz1, ML_nil, encLTHand]) rfl
@[simp] theorem c52_fn1 (s_l : Nat) (z_l : D) : c52.fn [.sl false s_l z_l []] [] = some ((fun (l : List THand) => l.length ≤ 1099511627776) [], (fun (l : List THand) => (dB (mIsChain l) : D)) [], (fun (l : List THand) => []) []) :=
  mkCon_fn (fun x y h _ => c52_inj x y h) ([] : (List THand)) (by simp [nz, nz1, ML_nil, encLTHand]) rfl
theorem c52_pc (l : List THand) (hpre : l.length ≤ 1099511627776) : PCo Try.prog 52 [encLTHand l] (Tab.of []) (dB (mIsChain l)) (Tab.of []) := by
  refine pco_of_run [8] (E := ⟨[c53, c127, c128, c129, c129], [], []⟩) (m := false) (base := 0) (Env.ok_cons c53_ok (Env.ok_cons c127_ok (Env.ok_cons c128_ok (Env.ok_cons c129_ok (Env.ok_cons c129_ok Env.ok_nil))))) G_ok mix 300 6 Try.func52 (by kernel_rfl) rfl (by kernel_rfl) (by kernel_rfl) rfl ?_
  simp [Try.f52]
  refine ⟨fun h => by simp [mIsChain]; omega, fun h => ?_⟩
  refine loop_inv (fun p : Nat => p ≤ l.length ∧ chainB [] l = chainB (l.take p) (l.drop p)) (fun p => [(3, .mp (0, 1)), (4, .ptr (1, 1) 0), (12, encLTHand l), (13, dI l.length), (14, dI p)]) (fun p => [((0, 1), .map 0 (keysG (bkH (l.take p))) (.lit (.pointer none)) (linksG (bkH (l.take p)))), ((1, 1), .box (encTHand (lastH (l.take p))))]) 2 (fun p => l.length - p) 0 400 (by simp) (by simp) (by simp) ?_
  intro p ⟨hp, hi⟩
  have hlk := look_link (bkH (l.take p)) (l[p]?.getD default).Thing
  rw [bkH_get] at hlk
  cases hr : ((l.take p).filter (thH (l[p]?.getD default).Thing)).reverse with
  | nil =>
    rw [hr] at hlk
    simp only [linkR_nil] at hlk
    simp [hlk]
    refine ⟨fun hlt => ?_, fun hge => chain_end hi hge h⟩
    have hs := chainB_at hlt
    have hgr := grpL_take (key := kHd) (d := default) hlt
    have hla := lastH_take hlt
    rw [hr] at hs
    refine ⟨hlt, fun hb => chain_bad hi hs hb, fun h1 h2 h3 h4 => ⟨by omega, Again.mk (p + 1) ⟨by omega, ?_⟩ (by simp [hgr, hla]) (by first | omega | (simp; omega))⟩⟩
    rw [hi, hs, h1, h4, decide_eq_true h2, decide_eq_true h3]; simp
  | cons y t =>
    rw [hr] at hlk
    simp only [linkR_cons] at hlk
    simp [hlk]
    refine ⟨fun hlt => ?_, fun hge => chain_end hi hge h⟩
    have hs := chainB_at hlt
    have hgr := grpL_take (key := kHd) (d := default) hlt
    have hla := lastH_take hlt
    rw [hr] at hs
    refine ⟨hlt, fun hb => chain_bad hi hs hb, fun h1 h2 h3 h4 => ⟨by omega, Again.mk (p + 1) ⟨by omega, ?_⟩ (by simp [hgr, hla]) (by first | omega | (simp; omega))⟩⟩
    rw [hi, hs, h1, h4, decide_eq_true h2, decide_eq_true h3]; simp
theorem c52_ok : c52.ok Try.prog := mkCon_ok fun l hpre => c52_pc l hpre
def lastIx (k : Int) (l : List THand) : Nat → Option Nat
  | 0 => none
  | p + 1 => if thH k (l[p]?.getD default) then some p else lastIx k l p
def ixI : Option Nat → Int
  | none => -1
  | some q => q
@[simp] theorem ixI_none : ixI none = -1 := rfl
@[simp] theorem ixI_some (q : Nat) : ixI (some q) = q := rfl
theorem lastIx_lt {k : Int} {l : List THand} : ∀ {p q : Nat}, lastIx k l p = some q → q < p ∧ thH k (l[q]?.getD default) = true
  | 0, q, h => by simp [lastIx] at h
  | p + 1, q, h => by
    simp only [lastIx] at h
    split at h
    · rename_i h2; simp only [Option.some.injEq] at h; subst h; exact ⟨by omega, h2⟩
    · have := lastIx_lt h; exact ⟨by omega, this.2⟩
/-- the last hand of a thing, and its place -/
theorem lastIx_rev {k : Int} {l : List THand} : ∀ {p : Nat}, p ≤ l.length → (((l.take p).filter (thH k)).reverse.head? = (lastIx k l p).map fun q => l[q]?.getD default)
  | 0, _ => rfl
  | p + 1, h => by
    have ih := lastIx_rev (k := k) (l := l) (p := p) (by omega)
    rw [take_at (d := default) (by omega), List.filter_append, List.reverse_append]
    by_cases hk : thH k (l[p]?.getD default) = true
    · simp [lastIx, List.filter, hk]
    · simp only [lastIx, if_neg hk]
      rw [← ih]; simp [List.filter, hk]
/-- loop.example/g03007/spec.l16Last -/
noncomputable def c239 : Con := mkCon 239 false (α := (List THand) × Int × Int) (fun x => (fun (l : List THand) (k : Int) (n : Int) => [encLTHand l, dI k, dI n]) x.1 x.2.1 x.2.2) (fun _ => []) (fun x => (fun (l : List THand) (k : Int) (n : Int) => l.length ≤ 1099511627776 ∧ 0 ≤ n ∧ n ≤ l.length) x.1 x.2.1 x.2.2) (fun x => (fun (l : List THand) (k : Int) (n : Int) => (dI (ixI (lastIx k l n.toNat)) : D)) x.1 x.2.1 x.2.2) (fun x => (fun (l : List THand) (k : Int) (n : Int) => []) x.1 x.2.1 x.2.2)
@[simp] theorem c239_f : c239.f = 239 := rfl
@[simp] theorem c239_own : c239.own = false := rfl
theorem c239_inj : ∀ u_ v_ : (List THand) × Int × Int, ((fun x => (fun (l : List THand) (k : Int) (n : Int) => [encLTHand l, dI k, dI n]) x.1 x.2.1 x.2.2) u_).map nz = ((fun x => (fun (l : List THand) (k : Int) (n : Int) => [encLTHand l, dI k, dI n]) x.1 x.2.1 x.2.2) v_).map nz → u_ = v_ := by
  intro u_ v_ h
  obtain ⟨l, k, n⟩ := u_
  obtain ⟨l', k', n'⟩ := v_
  simp [nz_lit, nz1_lit, nz_agg, nz_sl, nz1_sl, encLTHand] at h
  first | (simp [h]; done) | (obtain ⟨⟩ := h; simp_all; done) | simp_all
@[simp] theorem c239_fn (l : List THand) (k : Int) (n : Int) : c239.fn [.sl false 5 yTHand (ML encTHand l), .lit (.int .i64 k), .lit (.int .i64 n)] [] = some ((fun (l : List THand) (k : Int) (n : Int) => l.length ≤ 1099511627776 ∧ 0 ≤ n ∧ n ≤ l.length) l k n, (fun (l : List THand) (k : Int) (n : Int) => (dI (ixI (lastIx k l n.toNat)) : D)) l k n, (fun (l : List THand) (k : Int) (n : Int) => []) l k n) :=
  mkCon_fn (fun x y h _ => c239_inj x y h) ((l, k, n) : (List THand) × Int × Int) (by simp [nz, nz1, ML_nil, encLTHand]) rfl
@[simp] theorem c239_fn1 (s_l : Nat) (z_l : D) (k : Int) (n : Int) : c239.fn [.sl false s_l z_l [], .lit (.int .i64 k), .lit (.int .i64 n)] [] = some ((fun (l : List THand) (k : Int) (n : Int) => l.length ≤ 1099511627776 ∧ 0 ≤ n ∧ n ≤ l.length) [] k n, (fun (l : List THand) (k : Int) (n : Int) => (dI (ixI (lastIx k l n.toNat)) : D)) [] k n, (fun (l : List THand) (k : Int) (n : Int) => []) [] k n) :=
  mkCon_fn (fun x y h _ => c239_inj x y h) (([], k, n) : (List THand) × Int × Int) (by simp [nz, nz1, ML_nil, encLTHand]) rfl
theorem c239_pc (l : List THand) (k : Int) (n : Int) (hpre : l.length ≤ 1099511627776 ∧ 0 ≤ n ∧ n ≤ l.length) : PCo Try.prog 239 [encLTHand l, dI k, dI n] (Tab.of []) (dI (ixI (lastIx k l n.toNat))) (Tab.of []) := by
  refine pco_of_run [] (E := ⟨[], [], []⟩) (m := false) (base := 0) Env.ok_nil G_ok mix 300 6 Try.func239 (by kernel_rfl) rfl (by kernel_rfl) (by kernel_rfl) rfl ?_
  simp [Try.f239]
  obtain ⟨p1, p2, p3⟩ := hpre
  refine loop_inv (fun p : Nat => (p : Int) ≤ n) (fun p => [(0, encLTHand l), (1, dI k), (2, dI n), (7, dI (ixI (lastIx k l p))), (8, dI p)]) (fun _ => []) 1 (fun p => n.toNat - p) 0 400 (by simp) (by simp; omega) (by simp [lastIx]) ?_
  intro p hp
  simp
  refine ⟨fun hlt => ?_, fun hge => ?_⟩
  · have hl : p < l.length := by omega
    repeat' (first | omega | refine And.intro ?_ ?_ | intro _)
    · rename_i hw
      exact Again.mk (p + 1) (by omega) (by simp [lastIx, thH, hw]) (by first | omega | (simp; omega))
    · rename_i hw
      exact Again.mk (p + 1) (by omega) (by simp [lastIx, thH, hw]) (by first | omega | (simp; omega))
  · have : n.toNat = p := by omega
    rw [this]
theorem c239_ok : c239.ok Try.prog := mkCon_ok fun ⟨l, k, n⟩ hpre => c239_pc l k n hpre
theorem mFollow_ix {l : List THand} {p : Nat} (hp : p ≤ l.length) (k : Int) (x : THand) : mFollow ((l.take p).filter (thH k)).reverse x = (match lastIx k l p with | none => decide (x.Holder = 1) || decide (x.Holder = 2) | some q => decide ((l[q]?.getD default).Holder ≤ 2) && !decide (x.Holder = 1)) := by
  have h := lastIx_rev (k := k) hp
  cases hr : ((l.take p).filter (thH k)).reverse with
  | nil =>
    rw [hr] at h
    cases hq : lastIx k l p with
    | none => rfl
    | some q => rw [hq] at h; simp at h
  | cons y t =>
    rw [hr] at h
    cases hq : lastIx k l p with
    | none => rw [hq] at h; simp at h
    | some q => rw [hq] at h; simp at h; simp [mFollow, h]
theorem lastH_at {l : List THand} {p : Nat} (h : p ≤ l.length) (h0 : 0 < p) : lastH (l.take p) = l[p - 1]?.getD default := by
  obtain ⟨q, rfl⟩ : ∃ q, p = q + 1 := ⟨p - 1, by omega⟩
  rw [lastH_take (by omega)]; rfl
theorem at_ok {l : List THand} {p : Nat} (h : p ≤ l.length) (h4 : mIn (l[p]?.getD default).At 0 100000 = true) : (lastH (l.take p)).At ≤ (l[p]?.getD default).At ↔ (0 < p → (l[p - 1]?.getD default).At ≤ (l[p]?.getD default).At) := by
  by_cases h0 : 0 < p
  · rw [lastH_at h h0]; exact ⟨fun h _ => h, fun h => h h0⟩
  · have : p = 0 := by omega
    subst this
    rw [mIn_iff] at h4
    simp; omega
theorem hand_ok {x : THand} : mIsHand x = true ↔ mIn x.Thing 1 999 = true ∧ mIn x.Holder 1 5 = true ∧ mIn x.Who 0 999 = true ∧ mIn x.At 0 100000 = true := by simp [mIsHand, and_assoc]
theorem spec_bad {l : List THand} {p : Nat} (hlt : p < l.length) (hi : chainB [] l = chainB (l.take p) (l.drop p))
    (h : (((((mIn (l[p]?.getD default).Thing 1 999 = false ∨ mIn (l[p]?.getD default).Holder 1 5 = false) ∨ mIn (l[p]?.getD default).Who 0 999 = false) ∨ mIn (l[p]?.getD default).At 0 100000 = false) ∨ ¬(l[p]?.getD default).Seal = mHandSeal (lastH (l.take p)).Seal (l[p]?.getD default)) ∨ 0 < p ∧ (l[p]?.getD default).At < (l[p - 1]?.getD default).At)) : mIsChain l = false := by
  refine chain_bad hi (chainB_at hlt) (.inl ?_)
  by_cases hh : mIsHand (l[p]?.getD default) = true
  · obtain ⟨h1, h2, h3, h4⟩ := hand_ok.1 hh
    simp only [h1, h2, h3, h4, Bool.true_eq_false, false_or] at h
    rcases h with h | ⟨h, h5⟩
    · exact .inr h
    · refine .inl (.inr ?_)
      rw [lastH_at (by omega) h]; exact h5
  · exact .inl (.inl (by simpa using hh))
theorem spec_end {l : List THand} {p : Nat} (hp : p ≤ l.length) (hi : chainB [] l = chainB (l.take p) (l.drop p)) (h : p < l.length → 100 < (l.length : Int)) : decide ((l.length : Int) ≤ 100) = mIsChain l := by
  by_cases hlt : p < l.length
  · have := h hlt
    have h2 : ¬ l.length ≤ 100 := by omega
    simp [mIsChain, h2]; omega
  · have h3 : chainB (l.take p) (l.drop p) = true := by rw [List.drop_eq_nil_of_le (by omega)]; rfl
    rw [mIsChain, hi, h3, Bool.and_true, Bool.eq_iff_iff]; simp; omega
/-- loop.example/g03007/spec.IsChain -/
noncomputable def c230 : Con := mkCon 230 false (α := (List THand)) (fun x => (fun (l : List THand) => [encLTHand l]) x) (fun _ => []) (fun x => (fun (l : List THand) => l.length ≤ 1099511627776) x) (fun x => (fun (l : List THand) => (dB (mIsChain l) : D)) x) (fun x => (fun (l : List THand) => []) x)
@[simp] theorem c230_f : c230.f = 230 := rfl
@[simp] theorem c230_own : c230.own = false := rfl
theorem c230_inj : ∀ u_ v_ : (List THand), ((fun x => (fun (l : List THand) => [encLTHand l]) x) u_).map nz = ((fun x => (fun (l : List THand) => [encLTHand l]) x) v_).map nz → u_ = v_ := by
  intro u_ v_ h
  obtain l := u_
  obtain l' := v_
  simp [nz_lit, nz1_lit, nz_agg, nz_sl, nz1_sl, encLTHand] at h
  first | (simp [h]; done) | (obtain ⟨⟩ := h; simp_all; done) | simp_all
@[simp] theorem c230_fn (l : List THand) : c230.fn [.sl false 5 yTHand (ML encTHand l)] [] = some ((fun (l : List THand) => l.length ≤ 1099511627776) l, (fun (l : List THand) => (dB (mIsChain l) : D)) l, (fun (l : List THand) => []) l) :=
  mkCon_fn (fun x y h _ => c230_inj x y h) (l : (List THand)) (by simp [nz, nz1, ML_nil, encLTHand]) rfl
@[simp] theorem c230_fn1 (s_l : Nat) (z_l : D) : c230.fn [.sl false s_l z_l []] [] = some ((fun (l : List THand) => l.length ≤ 1099511627776) [], (fun (l : List THand) => (dB (mIsChain l) : D)) [], (fun (l : List THand) => []) []) :=
  mkCon_fn (fun x y h _ => c230_inj x y h) ([] : (List THand)) (by simp [nz, nz1, ML_nil, encLTHand]) rfl
theorem c230_pc (l : List THand) (hpre : l.length ≤ 1099511627776) : PCo Try.prog 230 [encLTHand l] (Tab.of []) (dB (mIsChain l)) (Tab.of []) := by
  refine pco_of_run [] (E := ⟨[c108, c229, c239], [], []⟩) (m := false) (base := 0) (Env.ok_cons c108_ok (Env.ok_cons c229_ok (Env.ok_cons c239_ok Env.ok_nil))) G_ok mix 300 6 Try.func230 (by kernel_rfl) rfl (by kernel_rfl) (by kernel_rfl) rfl ?_
  simp [Try.f230]
  refine loop_inv (fun p : Nat => p ≤ l.length ∧ chainB [] l = chainB (l.take p) (l.drop p) ∧ (0 < p → l.length ≤ 100)) (fun p => [(0, encLTHand l), (3, dI (lastH (l.take p)).Seal), (4, dI p)]) (fun _ => []) 1 (fun p => l.length - p) 0 400 (by simp) (by simp) (by simp) ?_
  intro p ⟨hp, hi, h100⟩
  have hmf := mFollow_ix hp (l[p]?.getD default).Thing (l[p]?.getD default)
  cases hq : lastIx (l[p]?.getD default).Thing l p with
  | none =>
    rw [hq] at hmf
    simp [hq]
    refine ⟨fun hlt h1 => ⟨hlt, ⟨fun _ _ _ _ _ _ => by omega, fun _ _ _ _ _ _ => by omega⟩, spec_bad hlt hi, fun a1 a2 a3 a4 a5 a6 => ⟨⟨by omega, by omega⟩, fun h2 => ?_, fun h2 => ⟨by omega, ?_⟩⟩⟩, ?_⟩
    · refine chain_bad hi (chainB_at hlt) (.inr ?_)
      rw [hmf]; simp; omega
    · have hs := chainB_at hlt
      have hla := lastH_take hlt
      refine Again.mk (p + 1) ⟨by omega, ?_, fun _ => by omega⟩ (by simp [hla, a5]) (by first | omega | (simp; omega))
      have hf : mFollow (List.filter (thH (l[p]?.getD default).Thing) (List.take p l)).reverse (l[p]?.getD default) = true := by
        rw [hmf]; rw [mIn_iff] at a2; simp; omega
      rw [hi, hs, hand_ok.2 ⟨a1, a2, a3, a4⟩, hf, decide_eq_true ((at_ok hp a4).2 a6), decide_eq_true a5]; simp
    · exact spec_end hp hi
  | some q =>
    rw [hq] at hmf
    have hql := (lastIx_lt hq).1
    simp [hq]
    refine ⟨fun hlt h1 => ⟨hlt, ⟨fun _ _ _ _ _ _ => by omega, fun _ _ _ _ _ _ => by omega⟩, spec_bad hlt hi, fun a1 a2 a3 a4 a5 a6 => ⟨⟨by omega, by omega⟩, fun _ => by omega, fun h2 => ?_, fun _ h2 h3 => ⟨by omega, ?_⟩⟩⟩, ?_⟩
    · refine chain_bad hi (chainB_at hlt) (.inr ?_)
      rw [hmf]; simp; omega
    · have hs := chainB_at hlt
      have hla := lastH_take hlt
      refine Again.mk (p + 1) ⟨by omega, ?_, fun _ => by omega⟩ (by simp [hla, a5]) (by first | omega | (simp; omega))
      have hf : mFollow (List.filter (thH (l[p]?.getD default).Thing) (List.take p l)).reverse (l[p]?.getD default) = true := by
        rw [hmf]; simp; omega
      rw [hi, hs, hand_ok.2 ⟨a1, a2, a3, a4⟩, hf, decide_eq_true ((at_ok hp a4).2 a6), decide_eq_true a5]; simp
    · exact spec_end hp hi
theorem c230_ok : c230.ok Try.prog := mkCon_ok fun l hpre => c230_pc l hpre
end Go.Proofs.Ytpnfkjbnhholfaa
