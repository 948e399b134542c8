/- Contracts of the functions that the laws run. -/
import Derived.Test.Ytpnfkjbnhholfaach16j
import Derived.Test.YtpnfkjbnhholfaaEngB
namespace Go.Proofs.Ytpnfkjbnhholfaa
open Go Go.Eng
set_option linter.unusedSimpArgs false
set_option linter.unusedVariables false
set_option maxRecDepth 10000
set_option maxHeartbeats 1000000
def mAddH (l : List THand) (x : THand) : THand := ⟨x.Thing, x.Holder, x.Who, x.At, mHandSeal (lastH l).Seal x⟩
def mAddHand (l : List THand) (x : THand) : List THand := if mIsChain (l ++ [mAddH l x]) then l ++ [mAddH l x] else l
theorem mAddHand_yes {l : List THand} {x : THand} (h : mIsChain (l ++ [mAddH l x]) = true) : mAddHand l x = l ++ [mAddH l x] := by simp [mAddHand, h]
theorem mAddHand_no {l : List THand} {x : THand} (h : mIsChain (l ++ [mAddH l x]) = false) : mAddHand l x = l := by simp [mAddHand, h]
theorem mAddHand_len (l : List THand) (x : THand) : (mAddHand l x).length ≤ l.length + 1 := by simp only [mAddHand]; split <;> simp
/-- loop.example/g03007/impl.AddHand -/
noncomputable def c50 : Con := mkCon 50 false (α := (List THand) × THand) (fun x => (fun (l : List THand) (x : THand) => [encLTHand l, encTHand x]) x.1 x.2) (fun _ => []) (fun x => (fun (l : List THand) (x : THand) => l.length ≤ 1073741823) x.1 x.2) (fun x => (fun (l : List THand) (x : THand) => (.tup [.own (0, 1) 5 0 (mAddHand l x).length, dB (mIsChain (l ++ [mAddH l x]))] : D)) x.1 x.2) (fun x => (fun (l : List THand) (x : THand) => [((0, 1), .arr false 5 yTHand (ML encTHand (mAddHand l x)))]) x.1 x.2)
@[simp] theorem c50_f : c50.f = 50 := rfl
@[simp] theorem c50_own : c50.own = false := rfl
theorem c50_inj : ∀ u_ v_ : (List THand) × THand, ((fun x => (fun (l : List THand) (x : THand) => [encLTHand l, encTHand x]) x.1 x.2) u_).map nz = ((fun x => (fun (l : List THand) (x : THand) => [encLTHand l, encTHand x]) x.1 x.2) v_).map nz → u_ = v_ := by
  intro u_ v_ h
  obtain ⟨l, ⟨x_Thing, x_Holder, x_Who, x_At, x_Seal⟩⟩ := u_
  obtain ⟨l', ⟨x_Thing', x_Holder', x_Who', x_At', x_Seal'⟩⟩ := v_
  simp [nz_lit, nz1_lit, nz_agg, nz_sl, nz1_sl, encLTHand, encTHand] at h
  first | (simp [h]; done) | (obtain ⟨⟩ := h; simp_all; done) | simp_all
@[simp] theorem c50_fn (l : List THand) (x_Thing : Int) (x_Holder : Int) (x_Who : Int) (x_At : Int) (x_Seal : Int) : c50.fn [.sl false 5 yTHand (ML encTHand l), .agg [.lit (.int .i64 x_Thing), .lit (.int .i64 x_Holder), .lit (.int .i64 x_Who), .lit (.int .i64 x_At), .lit (.int .i64 x_Seal)]] [] = some ((fun (l : List THand) (x : THand) => l.length ≤ 1073741823) l ⟨x_Thing, x_Holder, x_Who, x_At, x_Seal⟩, (fun (l : List THand) (x : THand) => (.tup [.own (0, 1) 5 0 (mAddHand l x).length, dB (mIsChain (l ++ [mAddH l x]))] : D)) l ⟨x_Thing, x_Holder, x_Who, x_At, x_Seal⟩, (fun (l : List THand) (x : THand) => [((0, 1), .arr false 5 yTHand (ML encTHand (mAddHand l x)))]) l ⟨x_Thing, x_Holder, x_Who, x_At, x_Seal⟩) :=
  mkCon_fn (fun x y h _ => c50_inj x y h) ((l, ⟨x_Thing, x_Holder, x_Who, x_At, x_Seal⟩) : (List THand) × THand) (by simp [nz, nz1, ML_nil, encLTHand, encTHand]) rfl
@[simp] theorem c50_fn1 (s_l : Nat) (z_l : D) (x_Thing : Int) (x_Holder : Int) (x_Who : Int) (x_At : Int) (x_Seal : Int) : c50.fn [.sl false s_l z_l [], .agg [.lit (.int .i64 x_Thing), .lit (.int .i64 x_Holder), .lit (.int .i64 x_Who), .lit (.int .i64 x_At), .lit (.int .i64 x_Seal)]] [] = some ((fun (l : List THand) (x : THand) => l.length ≤ 1073741823) [] ⟨x_Thing, x_Holder, x_Who, x_At, x_Seal⟩, (fun (l : List THand) (x : THand) => (.tup [.own (0, 1) 5 0 (mAddHand l x).length, dB (mIsChain (l ++ [mAddH l x]))] : D)) [] ⟨x_Thing, x_Holder, x_Who, x_At, x_Seal⟩, (fun (l : List THand) (x : THand) => [((0, 1), .arr false 5 yTHand (ML encTHand (mAddHand l x)))]) [] ⟨x_Thing, x_Holder, x_Who, x_At, x_Seal⟩) :=
  mkCon_fn (fun x y h _ => c50_inj x y h) (([], ⟨x_Thing, x_Holder, x_Who, x_At, x_Seal⟩) : (List THand) × THand) (by simp [nz, nz1, ML_nil, encLTHand, encTHand]) rfl
theorem c50_pc (l : List THand) (x : THand) (hpre : l.length ≤ 1073741823) : PCo Try.prog 50 [encLTHand l, encTHand x] (Tab.of []) (.tup [.own (0, 1) 5 0 (mAddHand l x).length, dB (mIsChain (l ++ [mAddH l x]))]) (Tab.of [((0, 1), .arr false 5 yTHand (ML encTHand (mAddHand l x)))]) := by
  refine pco_of_run [1001, 1002] (E := ⟨[c52, c53, c124, c125], [], []⟩) (m := false) (base := 0) (Env.ok_cons c52_ok (Env.ok_cons c53_ok (Env.ok_cons c124_ok (Env.ok_cons c125_ok Env.ok_nil)))) G_ok mix 300 6 Try.func50 (by kernel_rfl) rfl (by kernel_rfl) (by kernel_rfl) rfl ?_
  have he : (⟨x.Thing, x.Holder, x.Who, x.At, mHandSeal (lastH l).Seal x⟩ : THand) = mAddH l x := rfl
  cases h : mIsChain (l ++ [mAddH l x]) with
  | true =>
    simp [Try.f50, h, mAddHand_yes h, he]
    repeat' (first | omega | refine And.intro ?_ ?_ | intro _)
  | false =>
    simp [Try.f50, h, mAddHand_no h, he]
    repeat' (first | omega | refine And.intro ?_ ?_ | intro _)
theorem c50_ok : c50.ok Try.prog := mkCon_ok fun ⟨l, x⟩ hpre => c50_pc l x hpre
theorem mAddH_last {l : List THand} (x : THand) (h : 0 < l.length) : (⟨x.Thing, x.Holder, x.Who, x.At, mHandSeal (l[l.length - 1]?.getD default).Seal x⟩ : THand) = mAddH l x := by
  have h2 : l.length - 1 < l.length := by omega
  have : (lastH l).Seal = (l[l.length - 1]?.getD default).Seal := by
    rw [lastH, List.getLast?_eq_getElem?]; simp [h2]
  rw [mAddH, this]
theorem mAddH_first {l : List THand} (x : THand) (h : l = []) : (⟨x.Thing, x.Holder, x.Who, x.At, mHandSeal 0 x⟩ : THand) = mAddH l x := by subst h; rfl
/-- loop.example/g03007/spec.AddHand -/
noncomputable def c207 : Con := mkCon 207 false (α := (List THand) × THand) (fun x => (fun (l : List THand) (x : THand) => [encLTHand l, encTHand x]) x.1 x.2) (fun _ => []) (fun x => (fun (l : List THand) (x : THand) => l.length ≤ 1073741823) x.1 x.2) (fun x => (fun (l : List THand) (x : THand) => (.tup [.own (0, 1) 5 0 (mAddHand l x).length, dB (mIsChain (l ++ [mAddH l x]))] : D)) x.1 x.2) (fun x => (fun (l : List THand) (x : THand) => [((0, 1), .arr false 5 yTHand (ML encTHand (mAddHand l x)))]) x.1 x.2)
@[simp] theorem c207_f : c207.f = 207 := rfl
@[simp] theorem c207_own : c207.own = false := rfl
theorem c207_inj : ∀ u_ v_ : (List THand) × THand, ((fun x => (fun (l : List THand) (x : THand) => [encLTHand l, encTHand x]) x.1 x.2) u_).map nz = ((fun x => (fun (l : List THand) (x : THand) => [encLTHand l, encTHand x]) x.1 x.2) v_).map nz → u_ = v_ := by
  intro u_ v_ h
  obtain ⟨l, ⟨x_Thing, x_Holder, x_Who, x_At, x_Seal⟩⟩ := u_
  obtain ⟨l', ⟨x_Thing', x_Holder', x_Who', x_At', x_Seal'⟩⟩ := v_
  simp [nz_lit, nz1_lit, nz_agg, nz_sl, nz1_sl, encLTHand, encTHand] at h
  first | (simp [h]; done) | (obtain ⟨⟩ := h; simp_all; done) | simp_all
@[simp] theorem c207_fn (l : List THand) (x_Thing : Int) (x_Holder : Int) (x_Who : Int) (x_At : Int) (x_Seal : Int) : c207.fn [.sl false 5 yTHand (ML encTHand l), .agg [.lit (.int .i64 x_Thing), .lit (.int .i64 x_Holder), .lit (.int .i64 x_Who), .lit (.int .i64 x_At), .lit (.int .i64 x_Seal)]] [] = some ((fun (l : List THand) (x : THand) => l.length ≤ 1073741823) l ⟨x_Thing, x_Holder, x_Who, x_At, x_Seal⟩, (fun (l : List THand) (x : THand) => (.tup [.own (0, 1) 5 0 (mAddHand l x).length, dB (mIsChain (l ++ [mAddH l x]))] : D)) l ⟨x_Thing, x_Holder, x_Who, x_At, x_Seal⟩, (fun (l : List THand) (x : THand) => [((0, 1), .arr false 5 yTHand (ML encTHand (mAddHand l x)))]) l ⟨x_Thing, x_Holder, x_Who, x_At, x_Seal⟩) :=
  mkCon_fn (fun x y h _ => c207_inj x y h) ((l, ⟨x_Thing, x_Holder, x_Who, x_At, x_Seal⟩) : (List THand) × THand) (by simp [nz, nz1, ML_nil, encLTHand, encTHand]) rfl
@[simp] theorem c207_fn1 (s_l : Nat) (z_l : D) (x_Thing : Int) (x_Holder : Int) (x_Who : Int) (x_At : Int) (x_Seal : Int) : c207.fn [.sl false s_l z_l [], .agg [.lit (.int .i64 x_Thing), .lit (.int .i64 x_Holder), .lit (.int .i64 x_Who), .lit (.int .i64 x_At), .lit (.int .i64 x_Seal)]] [] = some ((fun (l : List THand) (x : THand) => l.length ≤ 1073741823) [] ⟨x_Thing, x_Holder, x_Who, x_At, x_Seal⟩, (fun (l : List THand) (x : THand) => (.tup [.own (0, 1) 5 0 (mAddHand l x).length, dB (mIsChain (l ++ [mAddH l x]))] : D)) [] ⟨x_Thing, x_Holder, x_Who, x_At, x_Seal⟩, (fun (l : List THand) (x : THand) => [((0, 1), .arr false 5 yTHand (ML encTHand (mAddHand l x)))]) [] ⟨x_Thing, x_Holder, x_Who, x_At, x_Seal⟩) :=
  mkCon_fn (fun x y h _ => c207_inj x y h) (([], ⟨x_Thing, x_Holder, x_Who, x_At, x_Seal⟩) : (List THand) × THand) (by simp [nz, nz1, ML_nil, encLTHand, encTHand]) rfl
theorem c207_pc (l : List THand) (x : THand) (hpre : l.length ≤ 1073741823) : PCo Try.prog 207 [encLTHand l, encTHand x] (Tab.of []) (.tup [.own (0, 1) 5 0 (mAddHand l x).length, dB (mIsChain (l ++ [mAddH l x]))]) (Tab.of [((0, 1), .arr false 5 yTHand (ML encTHand (mAddHand l x)))]) := by
  refine pco_of_run [1005] (E := ⟨[c229, c230], [], []⟩) (m := false) (base := 0) (Env.ok_cons c229_ok (Env.ok_cons c230_ok Env.ok_nil)) G_ok mix 300 6 Try.func207 (by kernel_rfl) rfl (by kernel_rfl) (by kernel_rfl) rfl ?_
  cases h : mIsChain (l ++ [mAddH l x]) with
  | true =>
    simp [Try.f207, mAddHand_yes h]
    refine ⟨fun h0 => ?_, fun h0 => ?_⟩
    · rw [mAddH_last x h0, h]
      simp; omega
    · rw [mAddH_first x h0, h]
      simp; omega
  | false =>
    simp [Try.f207, mAddHand_no h]
    refine ⟨fun h0 => ?_, fun h0 => ?_⟩
    · rw [mAddH_last x h0, h]
      simp; omega
    · rw [mAddH_first x h0, h]
      simp; omega
theorem c207_ok : c207.ok Try.prog := mkCon_ok fun ⟨l, x⟩ hpre => c207_pc l x hpre
end Go.Proofs.Ytpnfkjbnhholfaa
