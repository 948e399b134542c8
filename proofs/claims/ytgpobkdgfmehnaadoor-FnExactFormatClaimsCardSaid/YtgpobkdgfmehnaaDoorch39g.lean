/- Contracts of the functions that the laws run. -/
import Derived.Test.YtgpobkdgfmehnaaDoorch01f
import Derived.Test.YtgpobkdgfmehnaaDoorhelpA
import Derived.Test.YtgpobkdgfmehnaaDoorEngB
namespace Go.Proofs.YtgpobkdgfmehnaaDoor
open Go Go.Eng
set_option linter.unusedSimpArgs false
set_option linter.unusedVariables false
set_option maxRecDepth 10000
set_option maxHeartbeats 1000000
def okI (x : Int) : Prop := -9223372036854775808 ≤ x ∧ x ≤ 9223372036854775807
theorem app_size (a b : ByteArray) : (a ++ b).size = a.size + b.size := ByteArray.size_append
theorem app_nil (b : ByteArray) : (⟨#[]⟩ : ByteArray) ++ b = b := by
  apply ByteArray.ext; simp [ByteArray.data_append]
theorem app_nil2 (b : ByteArray) : b ++ (⟨#[]⟩ : ByteArray) = b := by
  apply ByteArray.ext; simp [ByteArray.data_append]
theorem app_assoc (a b c : ByteArray) : (a ++ b) ++ c = a ++ (b ++ c) := by
  apply ByteArray.ext; simp [ByteArray.data_append]
def strOf (l : List Int) : ByteArray := ⟨(l.map fun n => UInt8.ofNat n.toNat).toArray⟩
theorem bytes_back (b : ByteArray) : (bytesI b).map (fun n => UInt8.ofNat n.toNat) = b.data.toList := by
  rw [bytesI, List.map_map, ByteArray.toList_eq]
  apply List.ext_getElem?
  intro i
  simp only [List.getElem?_map]
  cases h : b.data.toList[i]? with
  | none => rfl
  | some c => simp
theorem strOf_app (l : List Int) (b : ByteArray) : strOf (l ++ bytesI b) = strOf l ++ b := by
  apply ByteArray.ext
  apply Array.ext'
  simp only [strOf, List.map_append, bytes_back, ByteArray.data_append, Array.toList_append]
theorem strOf_one (l : List Int) (c : Int) : strOf (l ++ [c]) = strOf l ++ ⟨#[UInt8.ofNat c.toNat]⟩ := by
  apply ByteArray.ext
  apply Array.ext'
  simp [strOf, ByteArray.data_append]
theorem strOf_nil : strOf [] = ⟨#[]⟩ := rfl
def appN (l : List Int) (n : Int) : List Int := l ++ bytesI (mInt n)
theorem appN_len {l : List Int} {n : Int} (h : -9223372036854775808 ≤ n ∧ n ≤ 9223372036854775807) : l.length + 1 ≤ (appN l n).length ∧ (appN l n).length ≤ l.length + 21 := by
  have := mInt_size h
  simp [appN]; omega
/-- loop.example/g03007/impl.appendNumber -/
noncomputable def c15 : Con := mkCon 15 true (α := (List Int) × Int) (fun x => (fun (l : List Int) (n : Int) => ([.own (0, 0) 1 0 l.length, dI n] : List D)) x.1 x.2) (fun x => (fun (l : List Int) (n : Int) => ([((0, 0), .arr false 1 (dU 0) (ML dU l))] : List (Nm × OO))) x.1 x.2) (fun x => (fun (l : List Int) (n : Int) => l.length ≤ 1099511627776 ∧ -9223372036854775808 ≤ n ∧ n ≤ 9223372036854775807) x.1 x.2) (fun x => (fun (l : List Int) (n : Int) => (.own (0, 1) 1 0 (appN l n).length : D)) x.1 x.2) (fun x => (fun (l : List Int) (n : Int) => ([((0, 1), .arr false 1 (dU 0) (ML dU (appN l n)))] : List (Nm × OO))) x.1 x.2)
@[simp] theorem c15_f : c15.f = 15 := rfl
@[simp] theorem c15_own : c15.own = true := rfl
theorem c15_inj : ∀ u_ v_ : (List Int) × Int, ((fun x => (fun (l : List Int) (n : Int) => ([.own (0, 0) 1 0 l.length, dI n] : List D)) x.1 x.2) u_).map nz = ((fun x => (fun (l : List Int) (n : Int) => ([.own (0, 0) 1 0 l.length, dI n] : List D)) x.1 x.2) v_).map nz → (fun x => (fun (l : List Int) (n : Int) => ([((0, 0), .arr false 1 (dU 0) (ML dU l))] : List (Nm × OO))) x.1 x.2) u_ = (fun x => (fun (l : List Int) (n : Int) => ([((0, 0), .arr false 1 (dU 0) (ML dU l))] : List (Nm × OO))) x.1 x.2) v_ → u_ = v_ := by
  intro u_ v_ h h2_
  obtain ⟨l, n⟩ := u_
  obtain ⟨l', n'⟩ := v_
  simp [nz_lit, nz1_lit, nz_agg, nz_sl, nz1_sl, nz_sx, nz_el, nz1_el, nz_own, nz1_own, nz_ptr, nz_fn, nz_iface] at h h2_
  first | (simp [h, h2_]; done) | (obtain ⟨h3_, h4_⟩ := List.append_inj h2_ h.1; simp_all; done) | simp_all | grind
@[simp] theorem c15_fn (l : List Int) (n : Int) : c15.fn ([.own (0, 0) 1 0 l.length, dI n]) ([((0, 0), .arr false 1 (dU 0) (ML dU l))]) = some (l.length ≤ 1099511627776 ∧ -9223372036854775808 ≤ n ∧ n ≤ 9223372036854775807, .own (0, 1) 1 0 (appN l n).length, [((0, 1), .arr false 1 (dU 0) (ML dU (appN l n)))]) :=
  mkCon_fn c15_inj ((l, n) : (List Int) × Int) rfl rfl
theorem c15_pc (l : List Int) (n : Int) (hpre : l.length ≤ 1099511627776 ∧ -9223372036854775808 ≤ n ∧ n ≤ 9223372036854775807) : PCo Tryd.prog 15 ([.own (0, 0) 1 0 l.length, dI n]) (Tab.of ([((0, 0), .arr false 1 (dU 0) (ML dU l))])) (.own (0, 1) 1 0 (appN l n).length) (Tab.of ([((0, 1), .arr false 1 (dU 0) (ML dU (appN l n)))])) := by
  refine pco_of_run [] (E := ⟨[c18], [], []⟩) (m := false) (base := 0) (Env.ok_cons c18_ok Env.ok_nil) G_ok mix 300 6 Tryd.func15 (by kernel_rfl) rfl (by kernel_rfl) (by kernel_rfl) rfl ?_
  simp [Tryd.f15]
  have := mInt_size hpre.2
  obtain ⟨pre1, pre2⟩ := hpre
  simp [appN]
  repeat' (first | omega | refine And.intro ?_ ?_ | intro _)
theorem c15_ok : c15.ok Tryd.prog := mkCon_ok fun ⟨l, n⟩ hpre => c15_pc l n hpre
@[simp] theorem c15_one (l : List Int) (x n : Int) : c15.fn [.own (0, 0) 1 0 (l.length + 1), .lit (.int .i64 n)] [((0, 0), .arr false 1 (dU 0) (ML dU (l ++ [x])))] = some (l.length + 1 ≤ 1099511627776 ∧ -9223372036854775808 ≤ n ∧ n ≤ 9223372036854775807, .own (0, 1) 1 0 (appN (l ++ [x]) n).length, [((0, 1), .arr false 1 (dU 0) (ML dU (appN (l ++ [x]) n)))]) := by
  have h := c15_fn (l := l ++ [x]) (n := n)
  simpa using h
def vS (ts : List ByteArray) : Nat → ByteArray
  | 0 => ⟨#[]⟩
  | p + 1 => if p = 0 then ts[p]?.getD ⟨#[]⟩ else (vS ts p ++ ⟨#[32]⟩) ++ ts[p]?.getD ⟨#[]⟩
def mView (ts : List ByteArray) : ByteArray := if ts = [] then ⟨#[45]⟩ else vS ts ts.length
def vT (ts : List ByteArray) : Nat → List Int
  | 0 => []
  | p + 1 => if p + 1 < ts.length then (vT ts p ++ bytesI (ts[p]?.getD ⟨#[]⟩)) ++ [32] else vT ts p ++ bytesI (ts[p]?.getD ⟨#[]⟩)
theorem strOf_vT (ts : List ByteArray) : ∀ p, p ≤ ts.length → strOf (vT ts p) = if 0 < p ∧ p < ts.length then vS ts p ++ ⟨#[32]⟩ else vS ts p
  | 0, _ => by simp [vT, vS, strOf_nil]
  | p + 1, h => by
    have ih := strOf_vT ts p (by omega)
    have e : strOf (vT ts p ++ bytesI (ts[p]?.getD ⟨#[]⟩)) = vS ts (p + 1) := by
      rw [strOf_app, ih]
      by_cases h0 : p = 0
      · subst h0; simp [vS, app_nil]
      · rw [if_pos ⟨by omega, by omega⟩, vS, if_neg h0]
    by_cases h1 : p + 1 < ts.length
    · rw [vT, if_pos h1, if_pos ⟨by omega, h1⟩, strOf_one, e]; rfl
    · rw [vT, if_neg h1, if_neg (fun h => h1 h.2), e]
theorem mView_of {ts : List ByteArray} (h : ts ≠ []) : strOf (vT ts ts.length) = mView ts := by
  rw [strOf_vT ts _ (Nat.le_refl _), if_neg (by omega), mView, if_neg h]
theorem at_le {ts : List ByteArray} {n : Nat} (h : ∀ x ∈ ts, x.size ≤ n) (p : Nat) : (ts[p]?.getD ⟨#[]⟩).size ≤ n := by
  by_cases hp : p < ts.length
  · exact h _ (getD_mem hp)
  · rw [List.getElem?_eq_none (by omega)]; simp [ByteArray.size]
theorem vS_le {ts : List ByteArray} {n : Nat} (h : ∀ x ∈ ts, x.size ≤ n) : ∀ p, (vS ts p).size ≤ (n + 1) * p
  | 0 => by simp [vS, ByteArray.size]
  | p + 1 => by
    have ih := vS_le h p
    have ha := at_le h p
    have z : (⟨#[32]⟩ : ByteArray).size = 1 := rfl
    rw [vS, Nat.mul_add]
    split
    · omega
    · simp only [app_size, z]; omega
theorem vT_le {ts : List ByteArray} {n : Nat} (h : ∀ x ∈ ts, x.size ≤ n) : ∀ p, (vT ts p).length ≤ (n + 1) * p
  | 0 => by simp [vT]
  | p + 1 => by
    have ih := vT_le h p
    have ha := at_le h p
    rw [vT, Nat.mul_add]
    split <;> simp only [List.length_append, bytesI_len, List.length_singleton] <;> omega
def intsR (a n : Nat) : List Int := (List.range' a n).map fun (i : Nat) => (i : Int)
def keysR (a n : Nat) : List (List Int) := (intsR a n).map fun k => [k]
def trueN (n : Nat) : List D := List.replicate n (dB true)
theorem intsR_succ (a n : Nat) : intsR a (n + 1) = (a : Int) :: intsR (a + 1) n := by simp [intsR, List.range'_succ]
theorem intsR_snoc (n : Nat) : intsR 0 (n + 1) = intsR 0 n ++ [(n : Int)] := by simp [intsR, List.range'_concat]
theorem posK_R : ∀ (n a : Nat) (k : Int), (k < a ∨ (a : Int) + n ≤ k) → posK [k] (keysR a n) = none
  | 0, _, _, _ => rfl
  | n + 1, a, k, h => by
    have ih := posK_R n (a + 1) k (by omega)
    rw [keysR, intsR_succ]
    simp only [List.map_cons, posK]
    rw [if_neg (by intro e; simp at e; omega)]
    rw [keysR] at ih
    rw [ih]; rfl
@[simp] theorem insK_R (n : Nat) : insK (keysR 0 n) [(n : Int)] = keysR 0 (n + 1) := by
  have h := posK_R n 0 n (by omega)
  rw [insK, h, keysR, keysR, intsR_snoc]; simp
@[simp] theorem updK_R (n : Nat) : updK (keysR 0 n) (trueN n) [(n : Int)] (.lit (.bool true)) = trueN (n + 1) := by
  have h := posK_R n 0 n (by omega)
  rw [updK, h, trueN, trueN, List.replicate_succ']
theorem delK_R (p k : Nat) : delK (keysR p (k + 1)) [(p : Int)] = keysR (p + 1) k := by
  simp [delK, keysR, intsR_succ, posK]
theorem delV_R (p k : Nat) : delV (keysR p (k + 1)) (trueN (k + 1)) [(p : Int)] = trueN k := by
  simp [delV, keysR, intsR_succ, posK, trueN, List.replicate_succ]
@[simp] theorem keysR_len (a n : Nat) : (keysR a n).length = n := by simp [keysR, intsR]
/-- loop.example/g03007/spec.l39Join -/
noncomputable def c11 : Con := mkCon 11 false (α := (List ByteArray)) (fun x => (fun (l : List ByteArray) => [encLS l]) x) (fun _ => []) (fun x => (fun (l : List ByteArray) => l.length ≤ 1048577 ∧ ∀ x ∈ l, x.size ≤ 100) x) (fun x => (fun (l : List ByteArray) => (dS (mView l) : D)) x) (fun x => (fun (l : List ByteArray) => []) x)
@[simp] theorem c11_f : c11.f = 11 := rfl
@[simp] theorem c11_own : c11.own = false := rfl
theorem c11_inj : ∀ u_ v_ : (List ByteArray), ((fun x => (fun (l : List ByteArray) => [encLS l]) x) u_).map nz = ((fun x => (fun (l : List ByteArray) => [encLS l]) x) v_).map nz → u_ = v_ := by
  intro u_ v_ h
  obtain l := u_
  obtain l' := v_
  simp [nz_lit, nz1_lit, nz_agg, nz_sl, nz1_sl, encLS] at h
  first | (simp [h]; done) | (obtain ⟨⟩ := h; simp_all; done) | simp_all
@[simp] theorem c11_fn (l : List ByteArray) : c11.fn [.sl false 1 (.lit (.string ⟨#[]⟩)) (ML dS l)] [] = some ((fun (l : List ByteArray) => l.length ≤ 1048577 ∧ ∀ x ∈ l, x.size ≤ 100) l, (fun (l : List ByteArray) => (dS (mView l) : D)) l, (fun (l : List ByteArray) => []) l) :=
  mkCon_fn (fun x y h _ => c11_inj x y h) (l : (List ByteArray)) (by simp [nz, nz1, ML_nil, encLS]) rfl
@[simp] theorem c11_fn1 (s_l : Nat) (z_l : D) : c11.fn [.sl false s_l z_l []] [] = some ((fun (l : List ByteArray) => l.length ≤ 1048577 ∧ ∀ x ∈ l, x.size ≤ 100) [], (fun (l : List ByteArray) => (dS (mView l) : D)) [], (fun (l : List ByteArray) => []) []) :=
  mkCon_fn (fun x y h _ => c11_inj x y h) ([] : (List ByteArray)) (by simp [nz, nz1, ML_nil, encLS]) rfl
theorem c11_pc (l : List ByteArray) (hpre : l.length ≤ 1048577 ∧ ∀ x ∈ l, x.size ≤ 100) : PCo Tryd.prog 11 [encLS l] (Tab.of []) (dS (mView l)) (Tab.of []) := by
  refine pco_of_run [] (E := ⟨[], [], []⟩) (m := false) (base := 0) Env.ok_nil G_ok mix 300 6 Tryd.func11 (by kernel_rfl) rfl (by kernel_rfl) (by kernel_rfl) rfl ?_
  simp [Tryd.f11]
  obtain ⟨hl, hx⟩ := hpre
  have z : (⟨#[32]⟩ : ByteArray).size = 1 := rfl
  refine loop_inv (fun p : Nat => p ≤ l.length) (fun p => [(0, encLS l), (3, dS (vS l p)), (4, dI p)]) (fun _ => []) 1 (fun p => l.length - p) 0 400 (by simp) (by simp) (by simp [vS]) ?_
  intro p hp
  have h1 := vS_le hx p
  have h2 := at_le hx p
  simp [z, app_size]
  refine ⟨fun hlt => ⟨fun h0 => ?_, fun h0 => ?_⟩, fun hge => ?_⟩
  · have e : vS l (p + 1) = (vS l p ++ ⟨#[32]⟩) ++ l[p]?.getD ⟨#[]⟩ := by rw [vS, if_neg (by omega)]
    repeat' (first | omega | refine And.intro ?_ ?_ | intro _)
    exact Again.mk (p + 1) (by omega) (by simp [e]) (by first | omega | (simp; omega))
  · have e : vS l (p + 1) = l[p]?.getD ⟨#[]⟩ := by rw [vS, if_pos (by omega)]
    have hp0 : p = 0 := by omega
    subst hp0
    repeat' (first | omega | refine And.intro ?_ ?_ | intro _)
    exact Again.mk 1 (by omega) (by simp [e, vS, app_nil]) (by first | omega | (simp; omega))
  · have : p = l.length := by omega
    subst this
    simp [mView]
    grind
theorem c11_ok : c11.ok Tryd.prog := mkCon_ok fun l hpre => c11_pc l hpre
def okClaim (x : TClaim) : Prop := okI x.Id ∧ okI x.Who ∧ okI x.Thing ∧ okI x.At ∧ okI x.State
def mLetter (s : Int) : Int := if s = 0 then 111 else if s = 1 then 112 else if s = 2 then 102 else if s = 3 then 115 else 63
def txClaim (x : TClaim) : ByteArray := ((((mInt x.Id ++ ⟨#[58]⟩) ++ mInt x.Who) ++ ⟨#[62]⟩) ++ mInt x.Thing) ++ ⟨#[UInt8.ofNat (mLetter x.State).toNat]⟩
theorem bytesI_app (a b : ByteArray) : bytesI (a ++ b) = bytesI a ++ bytesI b := by
  simp [bytesI, ByteArray.toList_eq, ByteArray.data_append]
theorem bytesI_one (c : UInt8) : bytesI ⟨#[c]⟩ = [(c.toNat : Int)] := by simp [bytesI, ByteArray.toList_eq]
/-- loop.example/g03007/impl.stateLetter -/
noncomputable def c16 : Con := mkCon 16 false (α := Int) (fun x => (fun (s : Int) => [dI s]) x) (fun _ => []) (fun x => (fun (s : Int) => True) x) (fun x => (fun (s : Int) => (.lit (.int .u8 (mLetter s)) : D)) x) (fun x => (fun (s : Int) => []) x)
@[simp] theorem c16_f : c16.f = 16 := rfl
@[simp] theorem c16_own : c16.own = false := rfl
theorem c16_inj : ∀ u_ v_ : Int, ((fun x => (fun (s : Int) => [dI s]) x) u_).map nz = ((fun x => (fun (s : Int) => [dI s]) x) v_).map nz → u_ = v_ := by
  intro u_ v_ h
  obtain s := u_
  obtain s' := v_
  simp [nz_lit, nz1_lit, nz_agg, nz_sl, nz1_sl] at h
  first | (simp [h]; done) | (obtain ⟨⟩ := h; simp_all; done) | simp_all
@[simp] theorem c16_fn (s : Int) : c16.fn [.lit (.int .i64 s)] [] = some ((fun (s : Int) => True) s, (fun (s : Int) => (.lit (.int .u8 (mLetter s)) : D)) s, (fun (s : Int) => []) s) :=
  mkCon_fn (fun x y h _ => c16_inj x y h) (s : Int) (by simp [nz, nz1, ML_nil]) rfl
theorem c16_pc (s : Int) : PCo Tryd.prog 16 [dI s] (Tab.of []) (.lit (.int .u8 (mLetter s))) (Tab.of []) := by
  refine pco_of_run [] (E := ⟨[], [], []⟩) (m := false) (base := 0) Env.ok_nil G_ok mix 300 6 Tryd.func16 (by kernel_rfl) rfl (by kernel_rfl) (by kernel_rfl) rfl ?_
  simp [Tryd.f16]
  simp [mLetter]
  grind
theorem c16_ok : c16.ok Tryd.prog := mkCon_ok fun s hpre => c16_pc s
/-- loop.example/g03007/impl.FormatClaims$1 -/
noncomputable def c14 : Con := mkCon 14 true (α := (List Int) × TClaim) (fun x => (fun (l : List Int) (x : TClaim) => ([.own (0, 0) 1 0 l.length, encTClaim x] : List D)) x.1 x.2) (fun x => (fun (l : List Int) (x : TClaim) => ([((0, 0), .arr false 1 (dU 0) (ML dU l))] : List (Nm × OO))) x.1 x.2) (fun x => (fun (l : List Int) (x : TClaim) => l.length ≤ 1000000000000 ∧ okClaim x) x.1 x.2) (fun x => (fun (l : List Int) (x : TClaim) => (.own (0, 1) 1 0 (l ++ bytesI (txClaim x)).length : D)) x.1 x.2) (fun x => (fun (l : List Int) (x : TClaim) => ([((0, 1), .arr false 1 (dU 0) (ML dU (l ++ bytesI (txClaim x))))] : List (Nm × OO))) x.1 x.2)
@[simp] theorem c14_f : c14.f = 14 := rfl
@[simp] theorem c14_own : c14.own = true := rfl
theorem c14_inj : ∀ u_ v_ : (List Int) × TClaim, ((fun x => (fun (l : List Int) (x : TClaim) => ([.own (0, 0) 1 0 l.length, encTClaim x] : List D)) x.1 x.2) u_).map nz = ((fun x => (fun (l : List Int) (x : TClaim) => ([.own (0, 0) 1 0 l.length, encTClaim x] : List D)) x.1 x.2) v_).map nz → (fun x => (fun (l : List Int) (x : TClaim) => ([((0, 0), .arr false 1 (dU 0) (ML dU l))] : List (Nm × OO))) x.1 x.2) u_ = (fun x => (fun (l : List Int) (x : TClaim) => ([((0, 0), .arr false 1 (dU 0) (ML dU l))] : List (Nm × OO))) x.1 x.2) v_ → u_ = v_ := by
  intro u_ v_ h h2_
  obtain ⟨l, ⟨x_Id, x_Who, x_Thing, x_At, x_State⟩⟩ := u_
  obtain ⟨l', ⟨x_Id', x_Who', x_Thing', x_At', x_State'⟩⟩ := v_
  simp [nz_lit, nz1_lit, nz_agg, nz_sl, nz1_sl, nz_sx, nz_el, nz1_el, nz_own, nz1_own, nz_ptr, nz_fn, nz_iface] at h h2_
  first | (simp [h, h2_]; done) | (obtain ⟨h3_, h4_⟩ := List.append_inj h2_ h.1; simp_all; done) | simp_all | grind
@[simp] theorem c14_fn (l : List Int) (x_Id : Int) (x_Who : Int) (x_Thing : Int) (x_At : Int) (x_State : Int) : c14.fn ([.own (0, 0) 1 0 l.length, .agg [.lit (.int .i64 x_Id), .lit (.int .i64 x_Who), .lit (.int .i64 x_Thing), .lit (.int .i64 x_At), .lit (.int .i64 x_State)]]) ([((0, 0), .arr false 1 (dU 0) (ML dU l))]) = some (l.length ≤ 1000000000000 ∧ okClaim (⟨x_Id, x_Who, x_Thing, x_At, x_State⟩ : TClaim), .own (0, 1) 1 0 (l ++ bytesI (txClaim (⟨x_Id, x_Who, x_Thing, x_At, x_State⟩ : TClaim))).length, [((0, 1), .arr false 1 (dU 0) (ML dU (l ++ bytesI (txClaim (⟨x_Id, x_Who, x_Thing, x_At, x_State⟩ : TClaim)))))]) :=
  mkCon_fn c14_inj ((l, ⟨x_Id, x_Who, x_Thing, x_At, x_State⟩) : (List Int) × TClaim) rfl rfl
theorem c14_pc (l : List Int) (x : TClaim) (hpre : l.length ≤ 1000000000000 ∧ okClaim x) : PCo Tryd.prog 14 ([.own (0, 0) 1 0 l.length, encTClaim x]) (Tab.of ([((0, 0), .arr false 1 (dU 0) (ML dU l))])) (.own (0, 1) 1 0 (l ++ bytesI (txClaim x)).length) (Tab.of ([((0, 1), .arr false 1 (dU 0) (ML dU (l ++ bytesI (txClaim x))))])) := by
  refine pco_of_run [1003, 9000015, 10000016] (E := ⟨[c15, c16], [], []⟩) (m := false) (base := 0) (Env.ok_cons c15_ok (Env.ok_cons c16_ok Env.ok_nil)) G_ok mix 300 6 Tryd.func14 (by kernel_rfl) rfl (by kernel_rfl) (by kernel_rfl) rfl ?_
  obtain ⟨hl, hx⟩ := hpre
  obtain ⟨x_Id, x_Who, x_Thing, x_At, x_State⟩ := x
  simp only [okClaim, okI] at hx
  have s1 := appN_len (l := l) (n := x_Id) hx.1
  have s2 := appN_len (l := appN l x_Id ++ [58]) (n := x_Who) hx.2.1
  have s3 := appN_len (l := appN (appN l x_Id ++ [58]) x_Who ++ [62]) (n := x_Thing) hx.2.2.1
  simp only [List.length_append, List.length_singleton] at s2 s3
  have hm : mLetter x_State = 111 ∨ mLetter x_State = 112 ∨ mLetter x_State = 102 ∨ mLetter x_State = 115 ∨ mLetter x_State = 63 := by simp only [mLetter]; (repeat' split) <;> simp
  have e : l ++ bytesI (txClaim ⟨x_Id, x_Who, x_Thing, x_At, x_State⟩) = appN (appN (appN l x_Id ++ [58]) x_Who ++ [62]) x_Thing ++ [mLetter x_State] := by
    have e2 : ((UInt8.ofNat (mLetter x_State).toNat).toNat : Int) = mLetter x_State := by rcases hm with h | h | h | h | h <;> rw [h] <;> rfl
    simp [txClaim, bytesI_app, bytesI_one, appN, e2]
    omega
  rw [e]
  simp [Tryd.f14]
  repeat' (first | omega | refine And.intro ?_ ?_ | intro _)
theorem c14_ok : c14.ok Tryd.prog := mkCon_ok fun ⟨l, x⟩ hpre => c14_pc l x hpre
theorem int_le {n : Int} (h : okI n) : (mInt n).size ≤ 21 := (mInt_size h).2
theorem txClaim_le {x : TClaim} (h : okClaim x) : (txClaim x).size ≤ 100 := by
  have s1 := int_le h.1
  have s2 := int_le h.2.1
  have s3 := int_le h.2.2.1
  have z1 : (⟨#[58]⟩ : ByteArray).size = 1 := rfl
  have z2 : (⟨#[62]⟩ : ByteArray).size = 1 := rfl
  have z3 : ∀ c : UInt8, (⟨#[c]⟩ : ByteArray).size = 1 := fun _ => rfl
  simp only [txClaim, app_size, z1, z2, z3]; omega
theorem txInt_le {x : Int} (h : okI x) : (mInt x).size ≤ 100 := by have := int_le h; omega
theorem map_at {α : Type} {l : List α} {f : α → ByteArray} {d : α} {p : Nat} (h : p < l.length) : (l.map f)[p]?.getD ⟨#[]⟩ = f (l[p]?.getD d) := by
  simp [List.getElem?_eq_getElem h]
theorem map_le {α : Type} {l : List α} {f : α → ByteArray} {ok : α → Prop} {n : Nat} (h : ∀ x ∈ l, ok x) (hf : ∀ x, ok x → (f x).size ≤ n) : ∀ y ∈ l.map f, y.size ≤ n := by
  intro y hy
  obtain ⟨x, hx, rfl⟩ := List.mem_map.1 hy
  exact hf x (h x hx)
/-- loop.example/g03007/impl.listView[loop.example/g03007/impl.Claim] -/
noncomputable def c13 : Con := mkCon 13 false (α := (List TClaim)) (fun x => (fun (l : List TClaim) => ([encLTClaim l, .fn (.func 14) [] []] : List D)) x) (fun x => (fun (l : List TClaim) => ([] : List (Nm × OO))) x) (fun x => (fun (l : List TClaim) => l.length ≤ 1048576 ∧ ∀ x ∈ l, okClaim x) x) (fun x => (fun (l : List TClaim) => (dS (mView (l.map txClaim)) : D)) x) (fun x => (fun (l : List TClaim) => ([] : List (Nm × OO))) x)
@[simp] theorem c13_f : c13.f = 13 := rfl
@[simp] theorem c13_own : c13.own = false := rfl
theorem c13_inj : ∀ u_ v_ : (List TClaim), ((fun x => (fun (l : List TClaim) => ([encLTClaim l, .fn (.func 14) [] []] : List D)) x) u_).map nz = ((fun x => (fun (l : List TClaim) => ([encLTClaim l, .fn (.func 14) [] []] : List D)) x) v_).map nz → (fun x => (fun (l : List TClaim) => ([] : List (Nm × OO))) x) u_ = (fun x => (fun (l : List TClaim) => ([] : List (Nm × OO))) x) v_ → u_ = v_ := by
  intro u_ v_ h h2_
  obtain l := u_
  obtain l' := v_
  simp [nz_lit, nz1_lit, nz_agg, nz_sl, nz1_sl, nz_sx, nz_el, nz1_el, nz_own, nz1_own, nz_ptr, nz_fn, nz_iface] at h h2_
  first | (simp [h, h2_]; done) | (obtain ⟨h3_, h4_⟩ := List.append_inj h2_ h.1; simp_all; done) | simp_all | grind
@[simp] theorem c13_fn (l : List TClaim) : c13.fn ([(.sl false 5 yTClaim (ML encTClaim l)), .fn (.func 14) [] []]) ([]) = some (l.length ≤ 1048576 ∧ ∀ x ∈ l, okClaim x, dS (mView (l.map txClaim)), []) :=
  mkCon_fn c13_inj (l : (List TClaim)) rfl rfl
theorem c13_pc (l : List TClaim) (hpre : l.length ≤ 1048576 ∧ ∀ x ∈ l, okClaim x) : PCo Tryd.prog 13 ([encLTClaim l, .fn (.func 14) [] []]) (Tab.of ([])) (dS (mView (l.map txClaim))) (Tab.of ([])) := by
  refine pco_of_run [] (E := ⟨[c14], [], []⟩) (m := false) (base := 0) (Env.ok_cons c14_ok Env.ok_nil) G_ok mix 300 6 Tryd.func13 (by kernel_rfl) rfl (by kernel_rfl) (by kernel_rfl) rfl ?_
  obtain ⟨hl, hx⟩ := hpre
  by_cases h0 : l = []
  · subst h0; simp [Tryd.f13, mView]
  · have hlp : 0 < l.length := List.length_pos_iff.2 h0
    have hne : ¬ (l.length : Int) = 0 := by omega
    have hts : l.map txClaim ≠ [] := by simpa using h0
    have e := mView_of hts
    rw [List.length_map] at e
    rw [← e]
    have hT := vT_le (map_le (f := txClaim) hx fun _ h => txClaim_le h)
    simp [Tryd.f13, h0]
    refine loop_inv (fun p : Nat => p ≤ l.length) (fun p => [(0, encLTClaim l), (1, .fn (.func 14) [] []), (5, .mp (0, 1)), (15, dI l.length), (16, dI p)]) (fun p => [((0, 1), .map 0 (keysR 0 p) (dB false) (trueN p))]) 2 (fun p => l.length - p) 0 400 (by simp) (by simp) (by simp [keysR, intsR, trueN]) ?_
    intro p hp
    simp
    refine ⟨fun hlt => ⟨by omega, Again.mk (p + 1) (by omega) (by simp) (by first | omega | (simp; omega))⟩, fun hge => ?_⟩
    have hpe : p = l.length := by omega
    subst hpe
    refine loop_inv (fun p : Nat => p ≤ l.length) (fun p => [(1, .fn (.func 14) [] []), (5, .mp (0, 1)), (7, .own (1, 1) 1 0 (vT (l.map txClaim) p).length), (23, encLTClaim l), (23 + 1, dI l.length), (23 + 2, dI p)]) (fun p => [((0, 1), .map 0 (keysR p (l.length - p)) (dB false) (trueN (l.length - p))), ((1, 1), .arr false 1 (dU 0) (ML dU (vT (l.map txClaim) p)))]) 2 (fun p => l.length - p) 0 400 (by simp) (by simp) (by simp [vT]) ?_
    intro p hp
    have hT0 := hT p
    have hT1 := hT (p + 1)
    simp [appN]
    refine ⟨fun hlt => ?_, fun hge => ?_⟩
    · have hk : l.length - p = (l.length - (p + 1)) + 1 := by omega
      have hx1 := hx _ (getD_mem (d := default) hlt)
      have hm := map_at (f := txClaim) (d := default) hlt
      have hsz := txClaim_le hx1
      have hdk : delK (keysR p (l.length - p)) [(p : Int)] = keysR (p + 1) (l.length - (p + 1)) := by rw [hk]; exact delK_R p _
      have hdv : delV (keysR p (l.length - p)) (trueN (l.length - p)) [(p : Int)] = trueN (l.length - (p + 1)) := by rw [hk]; exact delV_R p _
      have hv1 : p + 1 < l.length → vT (l.map txClaim) (p + 1) = (vT (l.map txClaim) p ++ bytesI (txClaim (l[p]?.getD default))) ++ [32] := fun h => by
        rw [vT, if_pos (by simpa using h), hm]
      have hv2 : ¬ p + 1 < l.length → vT (l.map txClaim) (p + 1) = vT (l.map txClaim) p ++ bytesI (txClaim (l[p]?.getD default)) := fun h => by
        rw [vT, if_neg (by simpa using h), hm]
      rw [hdk, hdv]
      simp only [keysR_len]
      refine ⟨hlt, ⟨by omega, hx1⟩, fun h1 => ?_, fun h1 => ?_⟩
      · have e1 := hv1 (by omega)
        repeat' (first | omega | refine And.intro ?_ ?_ | intro _)
        exact Again.mk (p + 1) (by omega) (by simp [e1]; try omega) (by first | omega | (simp; omega))
      · have h2 : (keysR (p + 1) (l.length - (p + 1))).length = 0 := by rw [h1]; rfl
        rw [keysR_len] at h2
        have e1 := hv2 (by omega)
        repeat' (first | omega | refine And.intro ?_ ?_ | intro _)
        exact Again.mk (p + 1) (by omega) (by simp [e1]) (by first | omega | (simp; omega))
    · have : p = l.length := by omega
      subst this
      simp [strOf]
theorem c13_ok : c13.ok Tryd.prog := mkCon_ok fun l hpre => c13_pc l hpre
theorem map_at2 {α : Type} {l : List α} {f : α → ByteArray} {d : α} {p : Nat} (h : p < l.length) : f (l[p]?.getD d) = (l.map f)[p]?.getD (f d) := by
  simp [List.getElem?_eq_getElem h]
/-- loop.example/g03007/impl.FormatClaims -/
noncomputable def c7 : Con := mkCon 7 false (α := (List TClaim)) (fun x => (fun (l : List TClaim) => [encLTClaim l]) x) (fun _ => []) (fun x => (fun (l : List TClaim) => l.length ≤ 1048576 ∧ ∀ x ∈ l, okClaim x) x) (fun x => (fun (l : List TClaim) => (dS (mView (l.map txClaim)) : D)) x) (fun x => (fun (l : List TClaim) => []) x)
@[simp] theorem c7_f : c7.f = 7 := rfl
@[simp] theorem c7_own : c7.own = false := rfl
theorem c7_inj : ∀ u_ v_ : (List TClaim), ((fun x => (fun (l : List TClaim) => [encLTClaim l]) x) u_).map nz = ((fun x => (fun (l : List TClaim) => [encLTClaim l]) x) v_).map nz → u_ = v_ := by
  intro u_ v_ h
  obtain l := u_
  obtain l' := v_
  simp [nz_lit, nz1_lit, nz_agg, nz_sl, nz1_sl, encLTClaim] at h
  first | (simp [h]; done) | (obtain ⟨⟩ := h; simp_all; done) | simp_all
@[simp] theorem c7_fn (l : List TClaim) : c7.fn [.sl false 5 yTClaim (ML encTClaim l)] [] = some ((fun (l : List TClaim) => l.length ≤ 1048576 ∧ ∀ x ∈ l, okClaim x) l, (fun (l : List TClaim) => (dS (mView (l.map txClaim)) : D)) l, (fun (l : List TClaim) => []) l) :=
  mkCon_fn (fun x y h _ => c7_inj x y h) (l : (List TClaim)) (by simp [nz, nz1, ML_nil, encLTClaim]) rfl
@[simp] theorem c7_fn1 (s_l : Nat) (z_l : D) : c7.fn [.sl false s_l z_l []] [] = some ((fun (l : List TClaim) => l.length ≤ 1048576 ∧ ∀ x ∈ l, okClaim x) [], (fun (l : List TClaim) => (dS (mView (l.map txClaim)) : D)) [], (fun (l : List TClaim) => []) []) :=
  mkCon_fn (fun x y h _ => c7_inj x y h) ([] : (List TClaim)) (by simp [nz, nz1, ML_nil, encLTClaim]) rfl
theorem c7_pc (l : List TClaim) (hpre : l.length ≤ 1048576 ∧ ∀ x ∈ l, okClaim x) : PCo Tryd.prog 7 [encLTClaim l] (Tab.of []) (dS (mView (l.map txClaim))) (Tab.of []) := by
  refine pco_of_run [] (E := ⟨[c13, c14, c14], [], []⟩) (m := false) (base := 0) (Env.ok_cons c13_ok (Env.ok_cons c14_ok (Env.ok_cons c14_ok Env.ok_nil))) G_ok mix 300 6 Tryd.func7 (by kernel_rfl) rfl (by kernel_rfl) (by kernel_rfl) rfl ?_
  simp [Tryd.f7]
  exact hpre
theorem c7_ok : c7.ok Tryd.prog := mkCon_ok fun l hpre => c7_pc l hpre
end Go.Proofs.YtgpobkdgfmehnaaDoor
