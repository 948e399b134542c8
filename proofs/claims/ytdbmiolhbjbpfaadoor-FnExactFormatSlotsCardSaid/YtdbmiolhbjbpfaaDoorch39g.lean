/- Contracts of the functions that the laws run. -/
import Derived.Test.YtdbmiolhbjbpfaaDoorch01f
import Derived.Test.YtdbmiolhbjbpfaaDoorhelpA
import Derived.Test.YtdbmiolhbjbpfaaDoorEngB
namespace Go.Proofs.YtdbmiolhbjbpfaaDoor
open Go Go.Eng
set_option linter.unusedSimpArgs false
set_option linter.unusedVariables false
set_option maxRecDepth 10000
set_option maxHeartbeats 1000000
def okI (x : Int) : Prop := -9223372036854775808 ≤ x ∧ x ≤ 9223372036854775807
theorem app_size (a b : ByteArray) : (a ++ b).size = a.size + b.size := ByteArray.size_append
theorem app_nil (b : ByteArray) : (⟨#[]⟩ : ByteArray) ++ b = b := by
  apply ByteArray.ext; simp [ByteArray.data_append]
theorem app_nil2 (b : ByteArray) : b ++ (⟨#[]⟩ : ByteArray) = b := by
  apply ByteArray.ext; simp [ByteArray.data_append]
theorem app_assoc (a b c : ByteArray) : (a ++ b) ++ c = a ++ (b ++ c) := by
  apply ByteArray.ext; simp [ByteArray.data_append]
def strOf (l : List Int) : ByteArray := ⟨(l.map fun n => UInt8.ofNat n.toNat).toArray⟩
theorem bytes_back (b : ByteArray) : (bytesI b).map (fun n => UInt8.ofNat n.toNat) = b.data.toList := by
  rw [bytesI, List.map_map, ByteArray.toList_eq]
  apply List.ext_getElem?
  intro i
  simp only [List.getElem?_map]
  cases h : b.data.toList[i]? with
  | none => rfl
  | some c => simp
theorem strOf_app (l : List Int) (b : ByteArray) : strOf (l ++ bytesI b) = strOf l ++ b := by
  apply ByteArray.ext
  apply Array.ext'
  simp only [strOf, List.map_append, bytes_back, ByteArray.data_append, Array.toList_append]
theorem strOf_one (l : List Int) (c : Int) : strOf (l ++ [c]) = strOf l ++ ⟨#[UInt8.ofNat c.toNat]⟩ := by
  apply ByteArray.ext
  apply Array.ext'
  simp [strOf, ByteArray.data_append]
theorem strOf_nil : strOf [] = ⟨#[]⟩ := rfl
def appN (l : List Int) (n : Int) : List Int := l ++ bytesI (mInt n)
theorem appN_len {l : List Int} {n : Int} (h : -9223372036854775808 ≤ n ∧ n ≤ 9223372036854775807) : l.length + 1 ≤ (appN l n).length ∧ (appN l n).length ≤ l.length + 21 := by
  have := mInt_size h
  simp [appN]; omega
/-- loop.example/g03007/impl.appendNumber -/
noncomputable def c29 : Con := mkCon 29 true (α := (List Int) × Int) (fun x => (fun (l : List Int) (n : Int) => ([.own (0, 0) 1 0 l.length, dI n] : List D)) x.1 x.2) (fun x => (fun (l : List Int) (n : Int) => ([((0, 0), .arr false 1 (dU 0) (ML dU l))] : List (Nm × OO))) x.1 x.2) (fun x => (fun (l : List Int) (n : Int) => l.length ≤ 1099511627776 ∧ -9223372036854775808 ≤ n ∧ n ≤ 9223372036854775807) x.1 x.2) (fun x => (fun (l : List Int) (n : Int) => (.own (0, 1) 1 0 (appN l n).length : D)) x.1 x.2) (fun x => (fun (l : List Int) (n : Int) => ([((0, 1), .arr false 1 (dU 0) (ML dU (appN l n)))] : List (Nm × OO))) x.1 x.2)
@[simp] theorem c29_f : c29.f = 29 := rfl
@[simp] theorem c29_own : c29.own = true := rfl
theorem c29_inj : ∀ u_ v_ : (List Int) × Int, ((fun x => (fun (l : List Int) (n : Int) => ([.own (0, 0) 1 0 l.length, dI n] : List D)) x.1 x.2) u_).map nz = ((fun x => (fun (l : List Int) (n : Int) => ([.own (0, 0) 1 0 l.length, dI n] : List D)) x.1 x.2) v_).map nz → (fun x => (fun (l : List Int) (n : Int) => ([((0, 0), .arr false 1 (dU 0) (ML dU l))] : List (Nm × OO))) x.1 x.2) u_ = (fun x => (fun (l : List Int) (n : Int) => ([((0, 0), .arr false 1 (dU 0) (ML dU l))] : List (Nm × OO))) x.1 x.2) v_ → u_ = v_ := by
  intro u_ v_ h h2_
  obtain ⟨l, n⟩ := u_
  obtain ⟨l', n'⟩ := v_
  simp [nz_lit, nz1_lit, nz_agg, nz_sl, nz1_sl, nz_sx, nz_el, nz1_el, nz_own, nz1_own, nz_ptr, nz_fn, nz_iface] at h h2_
  first | (simp [h, h2_]; done) | (obtain ⟨h3_, h4_⟩ := List.append_inj h2_ h.1; simp_all; done) | simp_all | grind
@[simp] theorem c29_fn (l : List Int) (n : Int) : c29.fn ([.own (0, 0) 1 0 l.length, dI n]) ([((0, 0), .arr false 1 (dU 0) (ML dU l))]) = some (l.length ≤ 1099511627776 ∧ -9223372036854775808 ≤ n ∧ n ≤ 9223372036854775807, .own (0, 1) 1 0 (appN l n).length, [((0, 1), .arr false 1 (dU 0) (ML dU (appN l n)))]) :=
  mkCon_fn c29_inj ((l, n) : (List Int) × Int) rfl rfl
theorem c29_pc (l : List Int) (n : Int) (hpre : l.length ≤ 1099511627776 ∧ -9223372036854775808 ≤ n ∧ n ≤ 9223372036854775807) : PCo Tryd.prog 29 ([.own (0, 0) 1 0 l.length, dI n]) (Tab.of ([((0, 0), .arr false 1 (dU 0) (ML dU l))])) (.own (0, 1) 1 0 (appN l n).length) (Tab.of ([((0, 1), .arr false 1 (dU 0) (ML dU (appN l n)))])) := by
  refine pco_of_run [] (E := ⟨[c45], []⟩) (m := false) (base := 0) (Env.ok_cons c45_ok Env.ok_nil) G_ok mix 300 6 Tryd.func29 (by kernel_rfl) rfl (by kernel_rfl) (by kernel_rfl) rfl ?_
  simp [Tryd.f29]
  have := mInt_size hpre.2
  obtain ⟨pre1, pre2⟩ := hpre
  simp [appN]
  repeat' (first | omega | refine And.intro ?_ ?_ | intro _)
theorem c29_ok : c29.ok Tryd.prog := mkCon_ok fun ⟨l, n⟩ hpre => c29_pc l n hpre
@[simp] theorem c29_one (l : List Int) (x n : Int) : c29.fn [.own (0, 0) 1 0 (l.length + 1), .lit (.int .i64 n)] [((0, 0), .arr false 1 (dU 0) (ML dU (l ++ [x])))] = some (l.length + 1 ≤ 1099511627776 ∧ -9223372036854775808 ≤ n ∧ n ≤ 9223372036854775807, .own (0, 1) 1 0 (appN (l ++ [x]) n).length, [((0, 1), .arr false 1 (dU 0) (ML dU (appN (l ++ [x]) n)))]) := by
  have h := c29_fn (l := l ++ [x]) (n := n)
  simpa using h
def vS (ts : List ByteArray) : Nat → ByteArray
  | 0 => ⟨#[]⟩
  | p + 1 => if p = 0 then ts[p]?.getD ⟨#[]⟩ else (vS ts p ++ ⟨#[32]⟩) ++ ts[p]?.getD ⟨#[]⟩
def mView (ts : List ByteArray) : ByteArray := if ts = [] then ⟨#[45]⟩ else vS ts ts.length
def vT (ts : List ByteArray) : Nat → List Int
  | 0 => []
  | p + 1 => if p + 1 < ts.length then (vT ts p ++ bytesI (ts[p]?.getD ⟨#[]⟩)) ++ [32] else vT ts p ++ bytesI (ts[p]?.getD ⟨#[]⟩)
theorem strOf_vT (ts : List ByteArray) : ∀ p, p ≤ ts.length → strOf (vT ts p) = if 0 < p ∧ p < ts.length then vS ts p ++ ⟨#[32]⟩ else vS ts p
  | 0, _ => by simp [vT, vS, strOf_nil]
  | p + 1, h => by
    have ih := strOf_vT ts p (by omega)
    have e : strOf (vT ts p ++ bytesI (ts[p]?.getD ⟨#[]⟩)) = vS ts (p + 1) := by
      rw [strOf_app, ih]
      by_cases h0 : p = 0
      · subst h0; simp [vS, app_nil]
      · rw [if_pos ⟨by omega, by omega⟩, vS, if_neg h0]
    by_cases h1 : p + 1 < ts.length
    · rw [vT, if_pos h1, if_pos ⟨by omega, h1⟩, strOf_one, e]; rfl
    · rw [vT, if_neg h1, if_neg (fun h => h1 h.2), e]
theorem mView_of {ts : List ByteArray} (h : ts ≠ []) : strOf (vT ts ts.length) = mView ts := by
  rw [strOf_vT ts _ (Nat.le_refl _), if_neg (by omega), mView, if_neg h]
theorem at_le {ts : List ByteArray} {n : Nat} (h : ∀ x ∈ ts, x.size ≤ n) (p : Nat) : (ts[p]?.getD ⟨#[]⟩).size ≤ n := by
  by_cases hp : p < ts.length
  · exact h _ (getD_mem hp)
  · rw [List.getElem?_eq_none (by omega)]; simp [ByteArray.size]
theorem vS_le {ts : List ByteArray} {n : Nat} (h : ∀ x ∈ ts, x.size ≤ n) : ∀ p, (vS ts p).size ≤ (n + 1) * p
  | 0 => by simp [vS, ByteArray.size]
  | p + 1 => by
    have ih := vS_le h p
    have ha := at_le h p
    have z : (⟨#[32]⟩ : ByteArray).size = 1 := rfl
    rw [vS, Nat.mul_add]
    split
    · omega
    · simp only [app_size, z]; omega
theorem vT_le {ts : List ByteArray} {n : Nat} (h : ∀ x ∈ ts, x.size ≤ n) : ∀ p, (vT ts p).length ≤ (n + 1) * p
  | 0 => by simp [vT]
  | p + 1 => by
    have ih := vT_le h p
    have ha := at_le h p
    rw [vT, Nat.mul_add]
    split <;> simp only [List.length_append, bytesI_len, List.length_singleton] <;> omega
def intsR (a n : Nat) : List Int := (List.range' a n).map fun (i : Nat) => (i : Int)
def keysR (a n : Nat) : List (List Int) := (intsR a n).map fun k => [k]
def trueN (n : Nat) : List D := List.replicate n (dB true)
theorem intsR_succ (a n : Nat) : intsR a (n + 1) = (a : Int) :: intsR (a + 1) n := by simp [intsR, List.range'_succ]
theorem intsR_snoc (n : Nat) : intsR 0 (n + 1) = intsR 0 n ++ [(n : Int)] := by simp [intsR, List.range'_concat]
theorem posK_R : ∀ (n a : Nat) (k : Int), (k < a ∨ (a : Int) + n ≤ k) → posK [k] (keysR a n) = none
  | 0, _, _, _ => rfl
  | n + 1, a, k, h => by
    have ih := posK_R n (a + 1) k (by omega)
    rw [keysR, intsR_succ]
    simp only [List.map_cons, posK]
    rw [if_neg (by intro e; simp at e; omega)]
    rw [keysR] at ih
    rw [ih]; rfl
@[simp] theorem insK_R (n : Nat) : insK (keysR 0 n) [(n : Int)] = keysR 0 (n + 1) := by
  have h := posK_R n 0 n (by omega)
  rw [insK, h, keysR, keysR, intsR_snoc]; simp
@[simp] theorem updK_R (n : Nat) : updK (keysR 0 n) (trueN n) [(n : Int)] (.lit (.bool true)) = trueN (n + 1) := by
  have h := posK_R n 0 n (by omega)
  rw [updK, h, trueN, trueN, List.replicate_succ']
theorem delK_R (p k : Nat) : delK (keysR p (k + 1)) [(p : Int)] = keysR (p + 1) k := by
  simp [delK, keysR, intsR_succ, posK]
theorem delV_R (p k : Nat) : delV (keysR p (k + 1)) (trueN (k + 1)) [(p : Int)] = trueN k := by
  simp [delV, keysR, intsR_succ, posK, trueN, List.replicate_succ]
@[simp] theorem keysR_len (a n : Nat) : (keysR a n).length = n := by simp [keysR, intsR]
/-- loop.example/g03007/spec.l39Join -/
noncomputable def c27 : Con := mkCon 27 false (α := (List ByteArray)) (fun x => (fun (l : List ByteArray) => [encLS l]) x) (fun _ => []) (fun x => (fun (l : List ByteArray) => l.length ≤ 1048577 ∧ ∀ x ∈ l, x.size ≤ 100) x) (fun x => (fun (l : List ByteArray) => (dS (mView l) : D)) x) (fun x => (fun (l : List ByteArray) => []) x)
@[simp] theorem c27_f : c27.f = 27 := rfl
@[simp] theorem c27_own : c27.own = false := rfl
theorem c27_inj : ∀ u_ v_ : (List ByteArray), ((fun x => (fun (l : List ByteArray) => [encLS l]) x) u_).map nz = ((fun x => (fun (l : List ByteArray) => [encLS l]) x) v_).map nz → u_ = v_ := by
  intro u_ v_ h
  obtain l := u_
  obtain l' := v_
  simp [nz_lit, nz1_lit, nz_agg, nz_sl, nz1_sl, encLS] at h
  first | (simp [h]; done) | (obtain ⟨⟩ := h; simp_all; done) | simp_all
@[simp] theorem c27_fn (l : List ByteArray) : c27.fn [.sl false 1 (.lit (.string ⟨#[]⟩)) (ML dS l)] [] = some ((fun (l : List ByteArray) => l.length ≤ 1048577 ∧ ∀ x ∈ l, x.size ≤ 100) l, (fun (l : List ByteArray) => (dS (mView l) : D)) l, (fun (l : List ByteArray) => []) l) :=
  mkCon_fn (fun x y h _ => c27_inj x y h) (l : (List ByteArray)) (by simp [nz, nz1, ML_nil, encLS]) rfl
@[simp] theorem c27_fn1 (s_l : Nat) (z_l : D) : c27.fn [.sl false s_l z_l []] [] = some ((fun (l : List ByteArray) => l.length ≤ 1048577 ∧ ∀ x ∈ l, x.size ≤ 100) [], (fun (l : List ByteArray) => (dS (mView l) : D)) [], (fun (l : List ByteArray) => []) []) :=
  mkCon_fn (fun x y h _ => c27_inj x y h) ([] : (List ByteArray)) (by simp [nz, nz1, ML_nil, encLS]) rfl
theorem c27_pc (l : List ByteArray) (hpre : l.length ≤ 1048577 ∧ ∀ x ∈ l, x.size ≤ 100) : PCo Tryd.prog 27 [encLS l] (Tab.of []) (dS (mView l)) (Tab.of []) := by
  refine pco_of_run [] (E := ⟨[], []⟩) (m := false) (base := 0) Env.ok_nil G_ok mix 300 6 Tryd.func27 (by kernel_rfl) rfl (by kernel_rfl) (by kernel_rfl) rfl ?_
  simp [Tryd.f27]
  obtain ⟨hl, hx⟩ := hpre
  have z : (⟨#[32]⟩ : ByteArray).size = 1 := rfl
  refine loop_inv (fun p : Nat => p ≤ l.length) (fun p => [(0, encLS l), (3, dS (vS l p)), (4, dI p)]) (fun _ => []) 1 (fun p => l.length - p) 0 400 (by simp) (by simp) (by simp [vS]) ?_
  intro p hp
  have h1 := vS_le hx p
  have h2 := at_le hx p
  simp [z, app_size]
  refine ⟨fun hlt => ⟨fun h0 => ?_, fun h0 => ?_⟩, fun hge => ?_⟩
  · have e : vS l (p + 1) = (vS l p ++ ⟨#[32]⟩) ++ l[p]?.getD ⟨#[]⟩ := by rw [vS, if_neg (by omega)]
    repeat' (first | omega | refine And.intro ?_ ?_ | intro _)
    exact Again.mk (p + 1) (by omega) (by simp [e]) (by first | omega | (simp; omega))
  · have e : vS l (p + 1) = l[p]?.getD ⟨#[]⟩ := by rw [vS, if_pos (by omega)]
    have hp0 : p = 0 := by omega
    subst hp0
    repeat' (first | omega | refine And.intro ?_ ?_ | intro _)
    exact Again.mk 1 (by omega) (by simp [e, vS, app_nil]) (by first | omega | (simp; omega))
  · have : p = l.length := by omega
    subst this
    simp [mView]
    grind
theorem c27_ok : c27.ok Tryd.prog := mkCon_ok fun l hpre => c27_pc l hpre
def okSlot (x : TSlot) : Prop := okI x.Id ∧ okI x.Size ∧ okI x.Thing
def okClaim (x : TClaim) : Prop := okI x.Id ∧ okI x.Who ∧ okI x.Thing ∧ okI x.At ∧ okI x.State
def okHit (x : THit) : Prop := okI x.House ∧ okI x.Thing
def txSlot (x : TSlot) : ByteArray := (mInt x.Id ++ ⟨#[58]⟩) ++ (if x.Thing = 0 then ⟨#[46]⟩ else mInt x.Thing)
def mLetter (s : Int) : Int := if s = 0 then 111 else if s = 1 then 112 else if s = 2 then 102 else if s = 3 then 115 else 63
def txClaim (x : TClaim) : ByteArray := ((((mInt x.Id ++ ⟨#[58]⟩) ++ mInt x.Who) ++ ⟨#[62]⟩) ++ mInt x.Thing) ++ ⟨#[UInt8.ofNat (mLetter x.State).toNat]⟩
def txHit (x : THit) : ByteArray := (mInt x.House ++ ⟨#[47]⟩) ++ mInt x.Thing
theorem bytesI_app (a b : ByteArray) : bytesI (a ++ b) = bytesI a ++ bytesI b := by
  simp [bytesI, ByteArray.toList_eq, ByteArray.data_append]
theorem bytesI_one (c : UInt8) : bytesI ⟨#[c]⟩ = [(c.toNat : Int)] := by simp [bytesI, ByteArray.toList_eq]
/-- (loop.example/g03007/impl.Slot).isFree -/
noncomputable def c33 : Con := mkCon 33 false (α := TSlot) (fun x => (fun (s : TSlot) => [encTSlot s]) x) (fun _ => []) (fun x => (fun (s : TSlot) => True) x) (fun x => (fun (s : TSlot) => (dB (decide (s.Thing = 0)) : D)) x) (fun x => (fun (s : TSlot) => []) x)
@[simp] theorem c33_f : c33.f = 33 := rfl
@[simp] theorem c33_own : c33.own = false := rfl
theorem c33_inj : ∀ u_ v_ : TSlot, ((fun x => (fun (s : TSlot) => [encTSlot s]) x) u_).map nz = ((fun x => (fun (s : TSlot) => [encTSlot s]) x) v_).map nz → u_ = v_ := by
  intro u_ v_ h
  obtain ⟨s_Id, s_Size, s_Thing⟩ := u_
  obtain ⟨s_Id', s_Size', s_Thing'⟩ := v_
  simp [nz_lit, nz1_lit, nz_agg, nz_sl, nz1_sl, encTSlot] at h
  first | (simp [h]; done) | (obtain ⟨⟩ := h; simp_all; done) | simp_all
@[simp] theorem c33_fn (s_Id : Int) (s_Size : Int) (s_Thing : Int) : c33.fn [.agg [.lit (.int .i64 s_Id), .lit (.int .i64 s_Size), .lit (.int .i64 s_Thing)]] [] = some ((fun (s : TSlot) => True) ⟨s_Id, s_Size, s_Thing⟩, (fun (s : TSlot) => (dB (decide (s.Thing = 0)) : D)) ⟨s_Id, s_Size, s_Thing⟩, (fun (s : TSlot) => []) ⟨s_Id, s_Size, s_Thing⟩) :=
  mkCon_fn (fun x y h _ => c33_inj x y h) (⟨s_Id, s_Size, s_Thing⟩ : TSlot) (by simp [nz, nz1, ML_nil, encTSlot]) rfl
theorem c33_pc (s : TSlot) : PCo Tryd.prog 33 [encTSlot s] (Tab.of []) (dB (decide (s.Thing = 0))) (Tab.of []) := by
  obtain ⟨s_Id, s_Size, s_Thing⟩ := s
  refine pco_of_run [] (E := ⟨[], []⟩) (m := false) (base := 0) Env.ok_nil G_ok mix 300 6 Tryd.func33 (by kernel_rfl) rfl (by kernel_rfl) (by kernel_rfl) rfl ?_
  simp [Tryd.f33]
  all_goals first | omega | (rw [Bool.eq_iff_iff]; simp; omega) | grind
theorem c33_ok : c33.ok Tryd.prog := mkCon_ok fun s hpre => c33_pc s
/-- loop.example/g03007/impl.stateLetter -/
noncomputable def c39 : Con := mkCon 39 false (α := Int) (fun x => (fun (s : Int) => [dI s]) x) (fun _ => []) (fun x => (fun (s : Int) => True) x) (fun x => (fun (s : Int) => (.lit (.int .u8 (mLetter s)) : D)) x) (fun x => (fun (s : Int) => []) x)
@[simp] theorem c39_f : c39.f = 39 := rfl
@[simp] theorem c39_own : c39.own = false := rfl
theorem c39_inj : ∀ u_ v_ : Int, ((fun x => (fun (s : Int) => [dI s]) x) u_).map nz = ((fun x => (fun (s : Int) => [dI s]) x) v_).map nz → u_ = v_ := by
  intro u_ v_ h
  obtain s := u_
  obtain s' := v_
  simp [nz_lit, nz1_lit, nz_agg, nz_sl, nz1_sl] at h
  first | (simp [h]; done) | (obtain ⟨⟩ := h; simp_all; done) | simp_all
@[simp] theorem c39_fn (s : Int) : c39.fn [.lit (.int .i64 s)] [] = some ((fun (s : Int) => True) s, (fun (s : Int) => (.lit (.int .u8 (mLetter s)) : D)) s, (fun (s : Int) => []) s) :=
  mkCon_fn (fun x y h _ => c39_inj x y h) (s : Int) (by simp [nz, nz1, ML_nil]) rfl
theorem c39_pc (s : Int) : PCo Tryd.prog 39 [dI s] (Tab.of []) (.lit (.int .u8 (mLetter s))) (Tab.of []) := by
  refine pco_of_run [] (E := ⟨[], []⟩) (m := false) (base := 0) Env.ok_nil G_ok mix 300 6 Tryd.func39 (by kernel_rfl) rfl (by kernel_rfl) (by kernel_rfl) rfl ?_
  simp [Tryd.f39]
  simp [mLetter]
  grind
theorem c39_ok : c39.ok Tryd.prog := mkCon_ok fun s hpre => c39_pc s
/-- loop.example/g03007/impl.FormatSlots$1 -/
noncomputable def c32 : Con := mkCon 32 true (α := (List Int) × TSlot) (fun x => (fun (l : List Int) (x : TSlot) => ([.own (0, 0) 1 0 l.length, encTSlot x] : List D)) x.1 x.2) (fun x => (fun (l : List Int) (x : TSlot) => ([((0, 0), .arr false 1 (dU 0) (ML dU l))] : List (Nm × OO))) x.1 x.2) (fun x => (fun (l : List Int) (x : TSlot) => l.length ≤ 1000000000000 ∧ okSlot x) x.1 x.2) (fun x => (fun (l : List Int) (x : TSlot) => (.own (0, 1) 1 0 (l ++ bytesI (txSlot x)).length : D)) x.1 x.2) (fun x => (fun (l : List Int) (x : TSlot) => ([((0, 1), .arr false 1 (dU 0) (ML dU (l ++ bytesI (txSlot x))))] : List (Nm × OO))) x.1 x.2)
@[simp] theorem c32_f : c32.f = 32 := rfl
@[simp] theorem c32_own : c32.own = true := rfl
theorem c32_inj : ∀ u_ v_ : (List Int) × TSlot, ((fun x => (fun (l : List Int) (x : TSlot) => ([.own (0, 0) 1 0 l.length, encTSlot x] : List D)) x.1 x.2) u_).map nz = ((fun x => (fun (l : List Int) (x : TSlot) => ([.own (0, 0) 1 0 l.length, encTSlot x] : List D)) x.1 x.2) v_).map nz → (fun x => (fun (l : List Int) (x : TSlot) => ([((0, 0), .arr false 1 (dU 0) (ML dU l))] : List (Nm × OO))) x.1 x.2) u_ = (fun x => (fun (l : List Int) (x : TSlot) => ([((0, 0), .arr false 1 (dU 0) (ML dU l))] : List (Nm × OO))) x.1 x.2) v_ → u_ = v_ := by
  intro u_ v_ h h2_
  obtain ⟨l, ⟨x_Id, x_Size, x_Thing⟩⟩ := u_
  obtain ⟨l', ⟨x_Id', x_Size', x_Thing'⟩⟩ := v_
  simp [nz_lit, nz1_lit, nz_agg, nz_sl, nz1_sl, nz_sx, nz_el, nz1_el, nz_own, nz1_own, nz_ptr, nz_fn, nz_iface] at h h2_
  first | (simp [h, h2_]; done) | (obtain ⟨h3_, h4_⟩ := List.append_inj h2_ h.1; simp_all; done) | simp_all | grind
@[simp] theorem c32_fn (l : List Int) (x_Id : Int) (x_Size : Int) (x_Thing : Int) : c32.fn ([.own (0, 0) 1 0 l.length, .agg [.lit (.int .i64 x_Id), .lit (.int .i64 x_Size), .lit (.int .i64 x_Thing)]]) ([((0, 0), .arr false 1 (dU 0) (ML dU l))]) = some (l.length ≤ 1000000000000 ∧ okSlot (⟨x_Id, x_Size, x_Thing⟩ : TSlot), .own (0, 1) 1 0 (l ++ bytesI (txSlot (⟨x_Id, x_Size, x_Thing⟩ : TSlot))).length, [((0, 1), .arr false 1 (dU 0) (ML dU (l ++ bytesI (txSlot (⟨x_Id, x_Size, x_Thing⟩ : TSlot)))))]) :=
  mkCon_fn c32_inj ((l, ⟨x_Id, x_Size, x_Thing⟩) : (List Int) × TSlot) rfl rfl
theorem c32_pc (l : List Int) (x : TSlot) (hpre : l.length ≤ 1000000000000 ∧ okSlot x) : PCo Tryd.prog 32 ([.own (0, 0) 1 0 l.length, encTSlot x]) (Tab.of ([((0, 0), .arr false 1 (dU 0) (ML dU l))])) (.own (0, 1) 1 0 (l ++ bytesI (txSlot x)).length) (Tab.of ([((0, 1), .arr false 1 (dU 0) (ML dU (l ++ bytesI (txSlot x))))])) := by
  refine pco_of_run [] (E := ⟨[c29, c33], []⟩) (m := false) (base := 0) (Env.ok_cons c29_ok (Env.ok_cons c33_ok Env.ok_nil)) G_ok mix 300 6 Tryd.func32 (by kernel_rfl) rfl (by kernel_rfl) (by kernel_rfl) rfl ?_
  obtain ⟨hl, hx⟩ := hpre
  obtain ⟨x_Id, x_Size, x_Thing⟩ := x
  simp only [okSlot, okI] at hx
  have s1 := appN_len (l := l) (n := x_Id) hx.1
  have s2 := appN_len (l := appN l x_Id ++ [58]) (n := x_Thing) hx.2.2
  simp only [List.length_append, List.length_singleton] at s2
  by_cases h0 : x_Thing = 0
  · have e : l ++ bytesI (txSlot ⟨x_Id, x_Size, x_Thing⟩) = (appN l x_Id ++ [58]) ++ [46] := by
      simp [txSlot, h0, bytesI_app, bytesI_one, appN]
    rw [e]
    simp [Tryd.f32, h0]
    repeat' (first | omega | refine And.intro ?_ ?_ | intro _)
  · have e : l ++ bytesI (txSlot ⟨x_Id, x_Size, x_Thing⟩) = appN (appN l x_Id ++ [58]) x_Thing := by
      simp [txSlot, h0, bytesI_app, bytesI_one, appN]
    rw [e]
    simp [Tryd.f32, h0]
    repeat' (first | omega | refine And.intro ?_ ?_ | intro _)
theorem c32_ok : c32.ok Tryd.prog := mkCon_ok fun ⟨l, x⟩ hpre => c32_pc l x hpre
/-- loop.example/g03007/impl.FormatHits$1 -/
noncomputable def c43 : Con := mkCon 43 true (α := (List Int) × THit) (fun x => (fun (l : List Int) (x : THit) => ([.own (0, 0) 1 0 l.length, encTHit x] : List D)) x.1 x.2) (fun x => (fun (l : List Int) (x : THit) => ([((0, 0), .arr false 1 (dU 0) (ML dU l))] : List (Nm × OO))) x.1 x.2) (fun x => (fun (l : List Int) (x : THit) => l.length ≤ 1000000000000 ∧ okHit x) x.1 x.2) (fun x => (fun (l : List Int) (x : THit) => (.own (0, 1) 1 0 (l ++ bytesI (txHit x)).length : D)) x.1 x.2) (fun x => (fun (l : List Int) (x : THit) => ([((0, 1), .arr false 1 (dU 0) (ML dU (l ++ bytesI (txHit x))))] : List (Nm × OO))) x.1 x.2)
@[simp] theorem c43_f : c43.f = 43 := rfl
@[simp] theorem c43_own : c43.own = true := rfl
theorem c43_inj : ∀ u_ v_ : (List Int) × THit, ((fun x => (fun (l : List Int) (x : THit) => ([.own (0, 0) 1 0 l.length, encTHit x] : List D)) x.1 x.2) u_).map nz = ((fun x => (fun (l : List Int) (x : THit) => ([.own (0, 0) 1 0 l.length, encTHit x] : List D)) x.1 x.2) v_).map nz → (fun x => (fun (l : List Int) (x : THit) => ([((0, 0), .arr false 1 (dU 0) (ML dU l))] : List (Nm × OO))) x.1 x.2) u_ = (fun x => (fun (l : List Int) (x : THit) => ([((0, 0), .arr false 1 (dU 0) (ML dU l))] : List (Nm × OO))) x.1 x.2) v_ → u_ = v_ := by
  intro u_ v_ h h2_
  obtain ⟨l, ⟨x_House, x_Thing⟩⟩ := u_
  obtain ⟨l', ⟨x_House', x_Thing'⟩⟩ := v_
  simp [nz_lit, nz1_lit, nz_agg, nz_sl, nz1_sl, nz_sx, nz_el, nz1_el, nz_own, nz1_own, nz_ptr, nz_fn, nz_iface] at h h2_
  first | (simp [h, h2_]; done) | (obtain ⟨h3_, h4_⟩ := List.append_inj h2_ h.1; simp_all; done) | simp_all | grind
@[simp] theorem c43_fn (l : List Int) (x_House : Int) (x_Thing : Int) : c43.fn ([.own (0, 0) 1 0 l.length, .agg [.lit (.int .i64 x_House), .lit (.int .i64 x_Thing)]]) ([((0, 0), .arr false 1 (dU 0) (ML dU l))]) = some (l.length ≤ 1000000000000 ∧ okHit (⟨x_House, x_Thing⟩ : THit), .own (0, 1) 1 0 (l ++ bytesI (txHit (⟨x_House, x_Thing⟩ : THit))).length, [((0, 1), .arr false 1 (dU 0) (ML dU (l ++ bytesI (txHit (⟨x_House, x_Thing⟩ : THit)))))]) :=
  mkCon_fn c43_inj ((l, ⟨x_House, x_Thing⟩) : (List Int) × THit) rfl rfl
theorem c43_pc (l : List Int) (x : THit) (hpre : l.length ≤ 1000000000000 ∧ okHit x) : PCo Tryd.prog 43 ([.own (0, 0) 1 0 l.length, encTHit x]) (Tab.of ([((0, 0), .arr false 1 (dU 0) (ML dU l))])) (.own (0, 1) 1 0 (l ++ bytesI (txHit x)).length) (Tab.of ([((0, 1), .arr false 1 (dU 0) (ML dU (l ++ bytesI (txHit x))))])) := by
  refine pco_of_run [] (E := ⟨[c29], []⟩) (m := false) (base := 0) (Env.ok_cons c29_ok Env.ok_nil) G_ok mix 300 6 Tryd.func43 (by kernel_rfl) rfl (by kernel_rfl) (by kernel_rfl) rfl ?_
  obtain ⟨hl, hx⟩ := hpre
  obtain ⟨x_House, x_Thing⟩ := x
  simp only [okHit, okI] at hx
  have s1 := appN_len (l := l) (n := x_House) hx.1
  have s2 := appN_len (l := appN l x_House ++ [47]) (n := x_Thing) hx.2
  simp only [List.length_append, List.length_singleton] at s2
  have e : l ++ bytesI (txHit ⟨x_House, x_Thing⟩) = appN (appN l x_House ++ [47]) x_Thing := by
    simp [txHit, bytesI_app, bytesI_one, appN]
  rw [e]
  simp [Tryd.f43]
  repeat' (first | omega | refine And.intro ?_ ?_ | intro _)
theorem c43_ok : c43.ok Tryd.prog := mkCon_ok fun ⟨l, x⟩ hpre => c43_pc l x hpre
theorem int_le {n : Int} (h : okI n) : (mInt n).size ≤ 21 := (mInt_size h).2
theorem txSlot_le {x : TSlot} (h : okSlot x) : (txSlot x).size ≤ 100 := by
  have s1 := int_le h.1
  have s2 := int_le h.2.2
  have z1 : (⟨#[58]⟩ : ByteArray).size = 1 := rfl
  have z2 : (⟨#[46]⟩ : ByteArray).size = 1 := rfl
  rw [txSlot]
  split <;> simp only [app_size, z1, z2] <;> omega
theorem txHit_le {x : THit} (h : okHit x) : (txHit x).size ≤ 100 := by
  have s1 := int_le h.1
  have s2 := int_le h.2
  have z1 : (⟨#[47]⟩ : ByteArray).size = 1 := rfl
  simp only [txHit, app_size, z1]; omega
theorem txInt_le {x : Int} (h : okI x) : (mInt x).size ≤ 100 := by have := int_le h; omega
theorem map_at {α : Type} {l : List α} {f : α → ByteArray} {d : α} {p : Nat} (h : p < l.length) : (l.map f)[p]?.getD ⟨#[]⟩ = f (l[p]?.getD d) := by
  simp [List.getElem?_eq_getElem h]
theorem map_le {α : Type} {l : List α} {f : α → ByteArray} {ok : α → Prop} {n : Nat} (h : ∀ x ∈ l, ok x) (hf : ∀ x, ok x → (f x).size ≤ n) : ∀ y ∈ l.map f, y.size ≤ n := by
  intro y hy
  obtain ⟨x, hx, rfl⟩ := List.mem_map.1 hy
  exact hf x (h x hx)
/-- loop.example/g03007/impl.listView[loop.example/g03007/impl.Slot] -/
noncomputable def c31 : Con := mkCon 31 false (α := (List TSlot)) (fun x => (fun (l : List TSlot) => ([encLTSlot l, .fn (.func 32) [] []] : List D)) x) (fun x => (fun (l : List TSlot) => ([] : List (Nm × OO))) x) (fun x => (fun (l : List TSlot) => l.length ≤ 1048576 ∧ ∀ x ∈ l, okSlot x) x) (fun x => (fun (l : List TSlot) => (dS (mView (l.map txSlot)) : D)) x) (fun x => (fun (l : List TSlot) => ([] : List (Nm × OO))) x)
@[simp] theorem c31_f : c31.f = 31 := rfl
@[simp] theorem c31_own : c31.own = false := rfl
theorem c31_inj : ∀ u_ v_ : (List TSlot), ((fun x => (fun (l : List TSlot) => ([encLTSlot l, .fn (.func 32) [] []] : List D)) x) u_).map nz = ((fun x => (fun (l : List TSlot) => ([encLTSlot l, .fn (.func 32) [] []] : List D)) x) v_).map nz → (fun x => (fun (l : List TSlot) => ([] : List (Nm × OO))) x) u_ = (fun x => (fun (l : List TSlot) => ([] : List (Nm × OO))) x) v_ → u_ = v_ := by
  intro u_ v_ h h2_
  obtain l := u_
  obtain l' := v_
  simp [nz_lit, nz1_lit, nz_agg, nz_sl, nz1_sl, nz_sx, nz_el, nz1_el, nz_own, nz1_own, nz_ptr, nz_fn, nz_iface] at h h2_
  first | (simp [h, h2_]; done) | (obtain ⟨h3_, h4_⟩ := List.append_inj h2_ h.1; simp_all; done) | simp_all | grind
@[simp] theorem c31_fn (l : List TSlot) : c31.fn ([(.sl false 3 yTSlot (ML encTSlot l)), .fn (.func 32) [] []]) ([]) = some (l.length ≤ 1048576 ∧ ∀ x ∈ l, okSlot x, dS (mView (l.map txSlot)), []) :=
  mkCon_fn c31_inj (l : (List TSlot)) rfl rfl
theorem c31_pc (l : List TSlot) (hpre : l.length ≤ 1048576 ∧ ∀ x ∈ l, okSlot x) : PCo Tryd.prog 31 ([encLTSlot l, .fn (.func 32) [] []]) (Tab.of ([])) (dS (mView (l.map txSlot))) (Tab.of ([])) := by
  refine pco_of_run [] (E := ⟨[c32], []⟩) (m := false) (base := 0) (Env.ok_cons c32_ok Env.ok_nil) G_ok mix 300 6 Tryd.func31 (by kernel_rfl) rfl (by kernel_rfl) (by kernel_rfl) rfl ?_
  obtain ⟨hl, hx⟩ := hpre
  by_cases h0 : l = []
  · subst h0; simp [Tryd.f31, mView]
  · have hlp : 0 < l.length := List.length_pos_iff.2 h0
    have hne : ¬ (l.length : Int) = 0 := by omega
    have hts : l.map txSlot ≠ [] := by simpa using h0
    have e := mView_of hts
    rw [List.length_map] at e
    rw [← e]
    have hT := vT_le (map_le (f := txSlot) hx fun _ h => txSlot_le h)
    simp [Tryd.f31, h0]
    refine loop_inv (fun p : Nat => p ≤ l.length) (fun p => [(0, encLTSlot l), (1, .fn (.func 32) [] []), (5, .mp (0, 1)), (15, dI l.length), (16, dI p)]) (fun p => [((0, 1), .map 0 (keysR 0 p) (dB false) (trueN p))]) 2 (fun p => l.length - p) 0 400 (by simp) (by simp) (by simp [keysR, intsR, trueN]) ?_
    intro p hp
    simp
    refine ⟨fun hlt => ⟨by omega, Again.mk (p + 1) (by omega) (by simp) (by first | omega | (simp; omega))⟩, fun hge => ?_⟩
    have hpe : p = l.length := by omega
    subst hpe
    refine loop_inv (fun p : Nat => p ≤ l.length) (fun p => [(1, .fn (.func 32) [] []), (5, .mp (0, 1)), (7, .own (1, 1) 1 0 (vT (l.map txSlot) p).length), (23, encLTSlot l), (23 + 1, dI l.length), (23 + 2, dI p)]) (fun p => [((0, 1), .map 0 (keysR p (l.length - p)) (dB false) (trueN (l.length - p))), ((1, 1), .arr false 1 (dU 0) (ML dU (vT (l.map txSlot) p)))]) 2 (fun p => l.length - p) 0 400 (by simp) (by simp) (by simp [vT]) ?_
    intro p hp
    have hT0 := hT p
    have hT1 := hT (p + 1)
    simp [appN]
    refine ⟨fun hlt => ?_, fun hge => ?_⟩
    · have hk : l.length - p = (l.length - (p + 1)) + 1 := by omega
      have hx1 := hx _ (getD_mem (d := default) hlt)
      have hm := map_at (f := txSlot) (d := default) hlt
      have hsz := txSlot_le hx1
      have hdk : delK (keysR p (l.length - p)) [(p : Int)] = keysR (p + 1) (l.length - (p + 1)) := by rw [hk]; exact delK_R p _
      have hdv : delV (keysR p (l.length - p)) (trueN (l.length - p)) [(p : Int)] = trueN (l.length - (p + 1)) := by rw [hk]; exact delV_R p _
      have hv1 : p + 1 < l.length → vT (l.map txSlot) (p + 1) = (vT (l.map txSlot) p ++ bytesI (txSlot (l[p]?.getD default))) ++ [32] := fun h => by
        rw [vT, if_pos (by simpa using h), hm]
      have hv2 : ¬ p + 1 < l.length → vT (l.map txSlot) (p + 1) = vT (l.map txSlot) p ++ bytesI (txSlot (l[p]?.getD default)) := fun h => by
        rw [vT, if_neg (by simpa using h), hm]
      rw [hdk, hdv]
      simp only [keysR_len]
      refine ⟨hlt, ⟨by omega, hx1⟩, fun h1 => ?_, fun h1 => ?_⟩
      · have e1 := hv1 (by omega)
        repeat' (first | omega | refine And.intro ?_ ?_ | intro _)
        exact Again.mk (p + 1) (by omega) (by simp [e1]; try omega) (by first | omega | (simp; omega))
      · have h2 : (keysR (p + 1) (l.length - (p + 1))).length = 0 := by rw [h1]; rfl
        rw [keysR_len] at h2
        have e1 := hv2 (by omega)
        repeat' (first | omega | refine And.intro ?_ ?_ | intro _)
        exact Again.mk (p + 1) (by omega) (by simp [e1]) (by first | omega | (simp; omega))
    · have : p = l.length := by omega
      subst this
      simp [strOf]
theorem c31_ok : c31.ok Tryd.prog := mkCon_ok fun l hpre => c31_pc l hpre
/-- loop.example/g03007/impl.listView[int] -/
noncomputable def c28 : Con := mkCon 28 false (α := (List Int)) (fun x => (fun (l : List Int) => ([encLI l, .fn (.func 29) [] []] : List D)) x) (fun x => (fun (l : List Int) => ([] : List (Nm × OO))) x) (fun x => (fun (l : List Int) => l.length ≤ 1048576 ∧ ∀ x ∈ l, okI x) x) (fun x => (fun (l : List Int) => (dS (mView (l.map mInt)) : D)) x) (fun x => (fun (l : List Int) => ([] : List (Nm × OO))) x)
@[simp] theorem c28_f : c28.f = 28 := rfl
@[simp] theorem c28_own : c28.own = false := rfl
theorem c28_inj : ∀ u_ v_ : (List Int), ((fun x => (fun (l : List Int) => ([encLI l, .fn (.func 29) [] []] : List D)) x) u_).map nz = ((fun x => (fun (l : List Int) => ([encLI l, .fn (.func 29) [] []] : List D)) x) v_).map nz → (fun x => (fun (l : List Int) => ([] : List (Nm × OO))) x) u_ = (fun x => (fun (l : List Int) => ([] : List (Nm × OO))) x) v_ → u_ = v_ := by
  intro u_ v_ h h2_
  obtain l := u_
  obtain l' := v_
  simp [nz_lit, nz1_lit, nz_agg, nz_sl, nz1_sl, nz_sx, nz_el, nz1_el, nz_own, nz1_own, nz_ptr, nz_fn, nz_iface] at h h2_
  first | (simp [h, h2_]; done) | (obtain ⟨h3_, h4_⟩ := List.append_inj h2_ h.1; simp_all; done) | simp_all | grind
@[simp] theorem c28_fn (l : List Int) : c28.fn ([(.sl false 1 (.lit (.int .i64 0)) (ML dI l)), .fn (.func 29) [] []]) ([]) = some (l.length ≤ 1048576 ∧ ∀ x ∈ l, okI x, dS (mView (l.map mInt)), []) :=
  mkCon_fn c28_inj (l : (List Int)) rfl rfl
theorem c28_pc (l : List Int) (hpre : l.length ≤ 1048576 ∧ ∀ x ∈ l, okI x) : PCo Tryd.prog 28 ([encLI l, .fn (.func 29) [] []]) (Tab.of ([])) (dS (mView (l.map mInt))) (Tab.of ([])) := by
  refine pco_of_run [] (E := ⟨[c29], []⟩) (m := false) (base := 0) (Env.ok_cons c29_ok Env.ok_nil) G_ok mix 300 6 Tryd.func28 (by kernel_rfl) rfl (by kernel_rfl) (by kernel_rfl) rfl ?_
  obtain ⟨hl, hx⟩ := hpre
  by_cases h0 : l = []
  · subst h0; simp [Tryd.f28, mView]
  · have hlp : 0 < l.length := List.length_pos_iff.2 h0
    have hne : ¬ (l.length : Int) = 0 := by omega
    have hts : l.map mInt ≠ [] := by simpa using h0
    have e := mView_of hts
    rw [List.length_map] at e
    rw [← e]
    have hT := vT_le (map_le (f := mInt) hx fun _ h => txInt_le h)
    simp [Tryd.f28, h0]
    refine loop_inv (fun p : Nat => p ≤ l.length) (fun p => [(0, encLI l), (1, .fn (.func 29) [] []), (5, .mp (0, 1)), (15, dI l.length), (16, dI p)]) (fun p => [((0, 1), .map 0 (keysR 0 p) (dB false) (trueN p))]) 2 (fun p => l.length - p) 0 400 (by simp) (by simp) (by simp [keysR, intsR, trueN]) ?_
    intro p hp
    simp
    refine ⟨fun hlt => ⟨by omega, Again.mk (p + 1) (by omega) (by simp) (by first | omega | (simp; omega))⟩, fun hge => ?_⟩
    have hpe : p = l.length := by omega
    subst hpe
    refine loop_inv (fun p : Nat => p ≤ l.length) (fun p => [(1, .fn (.func 29) [] []), (5, .mp (0, 1)), (7, .own (1, 1) 1 0 (vT (l.map mInt) p).length), (23, encLI l), (23 + 1, dI l.length), (23 + 2, dI p)]) (fun p => [((0, 1), .map 0 (keysR p (l.length - p)) (dB false) (trueN (l.length - p))), ((1, 1), .arr false 1 (dU 0) (ML dU (vT (l.map mInt) p)))]) 2 (fun p => l.length - p) 0 400 (by simp) (by simp) (by simp [vT]) ?_
    intro p hp
    have hT0 := hT p
    have hT1 := hT (p + 1)
    simp [appN]
    refine ⟨fun hlt => ?_, fun hge => ?_⟩
    · have hk : l.length - p = (l.length - (p + 1)) + 1 := by omega
      have hx1 := hx _ (getD_mem (d := 0) hlt)
      have hm := map_at (f := mInt) (d := 0) hlt
      have hsz := txInt_le hx1
      have hdk : delK (keysR p (l.length - p)) [(p : Int)] = keysR (p + 1) (l.length - (p + 1)) := by rw [hk]; exact delK_R p _
      have hdv : delV (keysR p (l.length - p)) (trueN (l.length - p)) [(p : Int)] = trueN (l.length - (p + 1)) := by rw [hk]; exact delV_R p _
      have hv1 : p + 1 < l.length → vT (l.map mInt) (p + 1) = (vT (l.map mInt) p ++ bytesI (mInt (l[p]?.getD 0))) ++ [32] := fun h => by
        rw [vT, if_pos (by simpa using h), hm]
      have hv2 : ¬ p + 1 < l.length → vT (l.map mInt) (p + 1) = vT (l.map mInt) p ++ bytesI (mInt (l[p]?.getD 0)) := fun h => by
        rw [vT, if_neg (by simpa using h), hm]
      rw [hdk, hdv]
      simp only [keysR_len]
      refine ⟨hlt, ⟨by omega, hx1⟩, fun h1 => ?_, fun h1 => ?_⟩
      · have e1 := hv1 (by omega)
        repeat' (first | omega | refine And.intro ?_ ?_ | intro _)
        exact Again.mk (p + 1) (by omega) (by simp [e1]; try omega) (by first | omega | (simp; omega))
      · have h2 : (keysR (p + 1) (l.length - (p + 1))).length = 0 := by rw [h1]; rfl
        rw [keysR_len] at h2
        have e1 := hv2 (by omega)
        repeat' (first | omega | refine And.intro ?_ ?_ | intro _)
        exact Again.mk (p + 1) (by omega) (by simp [e1]) (by first | omega | (simp; omega))
    · have : p = l.length := by omega
      subst this
      simp [strOf]
theorem c28_ok : c28.ok Tryd.prog := mkCon_ok fun l hpre => c28_pc l hpre
/-- loop.example/g03007/impl.listView[loop.example/g03007/impl.Hit] -/
noncomputable def c42 : Con := mkCon 42 false (α := (List THit)) (fun x => (fun (l : List THit) => ([encLTHit l, .fn (.func 43) [] []] : List D)) x) (fun x => (fun (l : List THit) => ([] : List (Nm × OO))) x) (fun x => (fun (l : List THit) => l.length ≤ 1048576 ∧ ∀ x ∈ l, okHit x) x) (fun x => (fun (l : List THit) => (dS (mView (l.map txHit)) : D)) x) (fun x => (fun (l : List THit) => ([] : List (Nm × OO))) x)
@[simp] theorem c42_f : c42.f = 42 := rfl
@[simp] theorem c42_own : c42.own = false := rfl
theorem c42_inj : ∀ u_ v_ : (List THit), ((fun x => (fun (l : List THit) => ([encLTHit l, .fn (.func 43) [] []] : List D)) x) u_).map nz = ((fun x => (fun (l : List THit) => ([encLTHit l, .fn (.func 43) [] []] : List D)) x) v_).map nz → (fun x => (fun (l : List THit) => ([] : List (Nm × OO))) x) u_ = (fun x => (fun (l : List THit) => ([] : List (Nm × OO))) x) v_ → u_ = v_ := by
  intro u_ v_ h h2_
  obtain l := u_
  obtain l' := v_
  simp [nz_lit, nz1_lit, nz_agg, nz_sl, nz1_sl, nz_sx, nz_el, nz1_el, nz_own, nz1_own, nz_ptr, nz_fn, nz_iface] at h h2_
  first | (simp [h, h2_]; done) | (obtain ⟨h3_, h4_⟩ := List.append_inj h2_ h.1; simp_all; done) | simp_all | grind
@[simp] theorem c42_fn (l : List THit) : c42.fn ([(.sl false 2 yTHit (ML encTHit l)), .fn (.func 43) [] []]) ([]) = some (l.length ≤ 1048576 ∧ ∀ x ∈ l, okHit x, dS (mView (l.map txHit)), []) :=
  mkCon_fn c42_inj (l : (List THit)) rfl rfl
theorem c42_pc (l : List THit) (hpre : l.length ≤ 1048576 ∧ ∀ x ∈ l, okHit x) : PCo Tryd.prog 42 ([encLTHit l, .fn (.func 43) [] []]) (Tab.of ([])) (dS (mView (l.map txHit))) (Tab.of ([])) := by
  refine pco_of_run [] (E := ⟨[c43], []⟩) (m := false) (base := 0) (Env.ok_cons c43_ok Env.ok_nil) G_ok mix 300 6 Tryd.func42 (by kernel_rfl) rfl (by kernel_rfl) (by kernel_rfl) rfl ?_
  obtain ⟨hl, hx⟩ := hpre
  by_cases h0 : l = []
  · subst h0; simp [Tryd.f42, mView]
  · have hlp : 0 < l.length := List.length_pos_iff.2 h0
    have hne : ¬ (l.length : Int) = 0 := by omega
    have hts : l.map txHit ≠ [] := by simpa using h0
    have e := mView_of hts
    rw [List.length_map] at e
    rw [← e]
    have hT := vT_le (map_le (f := txHit) hx fun _ h => txHit_le h)
    simp [Tryd.f42, h0]
    refine loop_inv (fun p : Nat => p ≤ l.length) (fun p => [(0, encLTHit l), (1, .fn (.func 43) [] []), (5, .mp (0, 1)), (15, dI l.length), (16, dI p)]) (fun p => [((0, 1), .map 0 (keysR 0 p) (dB false) (trueN p))]) 2 (fun p => l.length - p) 0 400 (by simp) (by simp) (by simp [keysR, intsR, trueN]) ?_
    intro p hp
    simp
    refine ⟨fun hlt => ⟨by omega, Again.mk (p + 1) (by omega) (by simp) (by first | omega | (simp; omega))⟩, fun hge => ?_⟩
    have hpe : p = l.length := by omega
    subst hpe
    refine loop_inv (fun p : Nat => p ≤ l.length) (fun p => [(1, .fn (.func 43) [] []), (5, .mp (0, 1)), (7, .own (1, 1) 1 0 (vT (l.map txHit) p).length), (23, encLTHit l), (23 + 1, dI l.length), (23 + 2, dI p)]) (fun p => [((0, 1), .map 0 (keysR p (l.length - p)) (dB false) (trueN (l.length - p))), ((1, 1), .arr false 1 (dU 0) (ML dU (vT (l.map txHit) p)))]) 2 (fun p => l.length - p) 0 400 (by simp) (by simp) (by simp [vT]) ?_
    intro p hp
    have hT0 := hT p
    have hT1 := hT (p + 1)
    simp [appN]
    refine ⟨fun hlt => ?_, fun hge => ?_⟩
    · have hk : l.length - p = (l.length - (p + 1)) + 1 := by omega
      have hx1 := hx _ (getD_mem (d := default) hlt)
      have hm := map_at (f := txHit) (d := default) hlt
      have hsz := txHit_le hx1
      have hdk : delK (keysR p (l.length - p)) [(p : Int)] = keysR (p + 1) (l.length - (p + 1)) := by rw [hk]; exact delK_R p _
      have hdv : delV (keysR p (l.length - p)) (trueN (l.length - p)) [(p : Int)] = trueN (l.length - (p + 1)) := by rw [hk]; exact delV_R p _
      have hv1 : p + 1 < l.length → vT (l.map txHit) (p + 1) = (vT (l.map txHit) p ++ bytesI (txHit (l[p]?.getD default))) ++ [32] := fun h => by
        rw [vT, if_pos (by simpa using h), hm]
      have hv2 : ¬ p + 1 < l.length → vT (l.map txHit) (p + 1) = vT (l.map txHit) p ++ bytesI (txHit (l[p]?.getD default)) := fun h => by
        rw [vT, if_neg (by simpa using h), hm]
      rw [hdk, hdv]
      simp only [keysR_len]
      refine ⟨hlt, ⟨by omega, hx1⟩, fun h1 => ?_, fun h1 => ?_⟩
      · have e1 := hv1 (by omega)
        repeat' (first | omega | refine And.intro ?_ ?_ | intro _)
        exact Again.mk (p + 1) (by omega) (by simp [e1]; try omega) (by first | omega | (simp; omega))
      · have h2 : (keysR (p + 1) (l.length - (p + 1))).length = 0 := by rw [h1]; rfl
        rw [keysR_len] at h2
        have e1 := hv2 (by omega)
        repeat' (first | omega | refine And.intro ?_ ?_ | intro _)
        exact Again.mk (p + 1) (by omega) (by simp [e1]) (by first | omega | (simp; omega))
    · have : p = l.length := by omega
      subst this
      simp [strOf]
theorem c42_ok : c42.ok Tryd.prog := mkCon_ok fun l hpre => c42_pc l hpre
theorem map_at2 {α : Type} {l : List α} {f : α → ByteArray} {d : α} {p : Nat} (h : p < l.length) : f (l[p]?.getD d) = (l.map f)[p]?.getD (f d) := by
  simp [List.getElem?_eq_getElem h]
/-- loop.example/g03007/impl.FormatNumbers -/
noncomputable def c9 : Con := mkCon 9 false (α := (List Int)) (fun x => (fun (l : List Int) => [encLI l]) x) (fun _ => []) (fun x => (fun (l : List Int) => l.length ≤ 1048576 ∧ ∀ x ∈ l, okI x) x) (fun x => (fun (l : List Int) => (dS (mView (l.map mInt)) : D)) x) (fun x => (fun (l : List Int) => []) x)
@[simp] theorem c9_f : c9.f = 9 := rfl
@[simp] theorem c9_own : c9.own = false := rfl
theorem c9_inj : ∀ u_ v_ : (List Int), ((fun x => (fun (l : List Int) => [encLI l]) x) u_).map nz = ((fun x => (fun (l : List Int) => [encLI l]) x) v_).map nz → u_ = v_ := by
  intro u_ v_ h
  obtain l := u_
  obtain l' := v_
  simp [nz_lit, nz1_lit, nz_agg, nz_sl, nz1_sl, encLI] at h
  first | (simp [h]; done) | (obtain ⟨⟩ := h; simp_all; done) | simp_all
@[simp] theorem c9_fn (l : List Int) : c9.fn [.sl false 1 (.lit (.int .i64 0)) (ML dI l)] [] = some ((fun (l : List Int) => l.length ≤ 1048576 ∧ ∀ x ∈ l, okI x) l, (fun (l : List Int) => (dS (mView (l.map mInt)) : D)) l, (fun (l : List Int) => []) l) :=
  mkCon_fn (fun x y h _ => c9_inj x y h) (l : (List Int)) (by simp [nz, nz1, ML_nil, encLI]) rfl
@[simp] theorem c9_fn1 (s_l : Nat) (z_l : D) : c9.fn [.sl false s_l z_l []] [] = some ((fun (l : List Int) => l.length ≤ 1048576 ∧ ∀ x ∈ l, okI x) [], (fun (l : List Int) => (dS (mView (l.map mInt)) : D)) [], (fun (l : List Int) => []) []) :=
  mkCon_fn (fun x y h _ => c9_inj x y h) ([] : (List Int)) (by simp [nz, nz1, ML_nil, encLI]) rfl
theorem c9_pc (l : List Int) (hpre : l.length ≤ 1048576 ∧ ∀ x ∈ l, okI x) : PCo Tryd.prog 9 [encLI l] (Tab.of []) (dS (mView (l.map mInt))) (Tab.of []) := by
  refine pco_of_run [] (E := ⟨[c28, c29, c29], []⟩) (m := false) (base := 0) (Env.ok_cons c28_ok (Env.ok_cons c29_ok (Env.ok_cons c29_ok Env.ok_nil))) G_ok mix 300 6 Tryd.func9 (by kernel_rfl) rfl (by kernel_rfl) (by kernel_rfl) rfl ?_
  simp [Tryd.f9]
  exact hpre
theorem c9_ok : c9.ok Tryd.prog := mkCon_ok fun l hpre => c9_pc l hpre
/-- loop.example/g03007/spec.FormatNumbers -/
noncomputable def c7 : Con := mkCon 7 false (α := (List Int)) (fun x => (fun (l : List Int) => [encLI l]) x) (fun _ => []) (fun x => (fun (l : List Int) => l.length ≤ 1048576 ∧ ∀ x ∈ l, okI x) x) (fun x => (fun (l : List Int) => (dS (mView (l.map mInt)) : D)) x) (fun x => (fun (l : List Int) => []) x)
@[simp] theorem c7_f : c7.f = 7 := rfl
@[simp] theorem c7_own : c7.own = false := rfl
theorem c7_inj : ∀ u_ v_ : (List Int), ((fun x => (fun (l : List Int) => [encLI l]) x) u_).map nz = ((fun x => (fun (l : List Int) => [encLI l]) x) v_).map nz → u_ = v_ := by
  intro u_ v_ h
  obtain l := u_
  obtain l' := v_
  simp [nz_lit, nz1_lit, nz_agg, nz_sl, nz1_sl, encLI] at h
  first | (simp [h]; done) | (obtain ⟨⟩ := h; simp_all; done) | simp_all
@[simp] theorem c7_fn (l : List Int) : c7.fn [.sl false 1 (.lit (.int .i64 0)) (ML dI l)] [] = some ((fun (l : List Int) => l.length ≤ 1048576 ∧ ∀ x ∈ l, okI x) l, (fun (l : List Int) => (dS (mView (l.map mInt)) : D)) l, (fun (l : List Int) => []) l) :=
  mkCon_fn (fun x y h _ => c7_inj x y h) (l : (List Int)) (by simp [nz, nz1, ML_nil, encLI]) rfl
@[simp] theorem c7_fn1 (s_l : Nat) (z_l : D) : c7.fn [.sl false s_l z_l []] [] = some ((fun (l : List Int) => l.length ≤ 1048576 ∧ ∀ x ∈ l, okI x) [], (fun (l : List Int) => (dS (mView (l.map mInt)) : D)) [], (fun (l : List Int) => []) []) :=
  mkCon_fn (fun x y h _ => c7_inj x y h) ([] : (List Int)) (by simp [nz, nz1, ML_nil, encLI]) rfl
theorem c7_pc (l : List Int) (hpre : l.length ≤ 1048576 ∧ ∀ x ∈ l, okI x) : PCo Tryd.prog 7 [encLI l] (Tab.of []) (dS (mView (l.map mInt))) (Tab.of []) := by
  refine pco_of_run [] (E := ⟨[c26, c27], []⟩) (m := false) (base := 0) (Env.ok_cons c26_ok (Env.ok_cons c27_ok Env.ok_nil)) G_ok mix 300 6 Tryd.func7 (by kernel_rfl) rfl (by kernel_rfl) (by kernel_rfl) rfl ?_
  simp [Tryd.f7]
  obtain ⟨hl, hx⟩ := hpre
  refine loop_inv (fun p : Nat => p ≤ l.length) (fun p => [(0, encLI l), (3, .own (0, 1) 1 0 p), (4, dI p)]) (fun p => [((0, 1), .arr false 1 (dS ⟨#[]⟩) (ML dS ((l.take p).map mInt)))]) 2 (fun p => l.length - p) 0 400 (by simp) (by simp) (by simp) ?_
  intro p hp
  simp
  refine ⟨fun hlt => ?_, fun hge => ?_⟩
  · have hs : List.take (p + 1) (l.map mInt) = List.take p (l.map mInt) ++ [mInt (l[p]?.getD 0)] := by rw [take_at (d := mInt 0) (by simpa using hlt), ← map_at2 (d := 0) hlt]
    have hm : min p l.length = p := by omega
    have hx1 := hx _ (getD_mem (d := 0) hlt)
    have hb : okI (l[p]?.getD 0) := hx1
    simp only [okI, okI] at hb
    have z1 : (⟨#[58]⟩ : ByteArray).size = 1 := rfl
    have z2 : (⟨#[46]⟩ : ByteArray).size = 1 := rfl
    have z3 : (⟨#[47]⟩ : ByteArray).size = 1 := rfl
    have s1 := int_le hx1; have tx : True := trivial; have tx1 : False → True := fun _ => trivial; have tx2 := tx1
    repeat' (first | omega | refine And.intro ?_ ?_ | intro _)
    all_goals first
      | (refine Again.mk (p + 1) (by omega) ?_ (by first | omega | (simp; omega)); simp [hs, hm, tx]; done)
      | (refine Again.mk (p + 1) (by omega) ?_ (by first | omega | (simp; omega)); have tx1 := tx1 (by assumption); simp [hs, hm, tx1]; done)
      | (refine Again.mk (p + 1) (by omega) ?_ (by first | omega | (simp; omega)); have tx2 := tx2 (by assumption); simp [hs, hm, tx2]; done)
  · have : p = l.length := by omega
    subst this
    have hs2 : List.take l.length (List.map mInt l) = List.map mInt l := by rw [← List.map_take, List.take_length]
    have hle : ∀ x ∈ l, (mInt x).size ≤ 100 := fun x h => txInt_le (hx x h)
    simp [lendD, hs2]
    exact ⟨by omega, hle⟩
theorem c7_ok : c7.ok Tryd.prog := mkCon_ok fun l hpre => c7_pc l hpre
/-- loop.example/g03007/impl.FormatSlots -/
noncomputable def c14 : Con := mkCon 14 false (α := (List TSlot)) (fun x => (fun (l : List TSlot) => [encLTSlot l]) x) (fun _ => []) (fun x => (fun (l : List TSlot) => l.length ≤ 1048576 ∧ ∀ x ∈ l, okSlot x) x) (fun x => (fun (l : List TSlot) => (dS (mView (l.map txSlot)) : D)) x) (fun x => (fun (l : List TSlot) => []) x)
@[simp] theorem c14_f : c14.f = 14 := rfl
@[simp] theorem c14_own : c14.own = false := rfl
theorem c14_inj : ∀ u_ v_ : (List TSlot), ((fun x => (fun (l : List TSlot) => [encLTSlot l]) x) u_).map nz = ((fun x => (fun (l : List TSlot) => [encLTSlot l]) x) v_).map nz → u_ = v_ := by
  intro u_ v_ h
  obtain l := u_
  obtain l' := v_
  simp [nz_lit, nz1_lit, nz_agg, nz_sl, nz1_sl, encLTSlot] at h
  first | (simp [h]; done) | (obtain ⟨⟩ := h; simp_all; done) | simp_all
@[simp] theorem c14_fn (l : List TSlot) : c14.fn [.sl false 3 yTSlot (ML encTSlot l)] [] = some ((fun (l : List TSlot) => l.length ≤ 1048576 ∧ ∀ x ∈ l, okSlot x) l, (fun (l : List TSlot) => (dS (mView (l.map txSlot)) : D)) l, (fun (l : List TSlot) => []) l) :=
  mkCon_fn (fun x y h _ => c14_inj x y h) (l : (List TSlot)) (by simp [nz, nz1, ML_nil, encLTSlot]) rfl
@[simp] theorem c14_fn1 (s_l : Nat) (z_l : D) : c14.fn [.sl false s_l z_l []] [] = some ((fun (l : List TSlot) => l.length ≤ 1048576 ∧ ∀ x ∈ l, okSlot x) [], (fun (l : List TSlot) => (dS (mView (l.map txSlot)) : D)) [], (fun (l : List TSlot) => []) []) :=
  mkCon_fn (fun x y h _ => c14_inj x y h) ([] : (List TSlot)) (by simp [nz, nz1, ML_nil, encLTSlot]) rfl
theorem c14_pc (l : List TSlot) (hpre : l.length ≤ 1048576 ∧ ∀ x ∈ l, okSlot x) : PCo Tryd.prog 14 [encLTSlot l] (Tab.of []) (dS (mView (l.map txSlot))) (Tab.of []) := by
  refine pco_of_run [] (E := ⟨[c31, c32, c32], []⟩) (m := false) (base := 0) (Env.ok_cons c31_ok (Env.ok_cons c32_ok (Env.ok_cons c32_ok Env.ok_nil))) G_ok mix 300 6 Tryd.func14 (by kernel_rfl) rfl (by kernel_rfl) (by kernel_rfl) rfl ?_
  simp [Tryd.f14]
  exact hpre
theorem c14_ok : c14.ok Tryd.prog := mkCon_ok fun l hpre => c14_pc l hpre
/-- loop.example/g03007/spec.FormatSlots -/
noncomputable def c12 : Con := mkCon 12 false (α := (List TSlot)) (fun x => (fun (l : List TSlot) => [encLTSlot l]) x) (fun _ => []) (fun x => (fun (l : List TSlot) => l.length ≤ 1048576 ∧ ∀ x ∈ l, okSlot x) x) (fun x => (fun (l : List TSlot) => (dS (mView (l.map txSlot)) : D)) x) (fun x => (fun (l : List TSlot) => []) x)
@[simp] theorem c12_f : c12.f = 12 := rfl
@[simp] theorem c12_own : c12.own = false := rfl
theorem c12_inj : ∀ u_ v_ : (List TSlot), ((fun x => (fun (l : List TSlot) => [encLTSlot l]) x) u_).map nz = ((fun x => (fun (l : List TSlot) => [encLTSlot l]) x) v_).map nz → u_ = v_ := by
  intro u_ v_ h
  obtain l := u_
  obtain l' := v_
  simp [nz_lit, nz1_lit, nz_agg, nz_sl, nz1_sl, encLTSlot] at h
  first | (simp [h]; done) | (obtain ⟨⟩ := h; simp_all; done) | simp_all
@[simp] theorem c12_fn (l : List TSlot) : c12.fn [.sl false 3 yTSlot (ML encTSlot l)] [] = some ((fun (l : List TSlot) => l.length ≤ 1048576 ∧ ∀ x ∈ l, okSlot x) l, (fun (l : List TSlot) => (dS (mView (l.map txSlot)) : D)) l, (fun (l : List TSlot) => []) l) :=
  mkCon_fn (fun x y h _ => c12_inj x y h) (l : (List TSlot)) (by simp [nz, nz1, ML_nil, encLTSlot]) rfl
@[simp] theorem c12_fn1 (s_l : Nat) (z_l : D) : c12.fn [.sl false s_l z_l []] [] = some ((fun (l : List TSlot) => l.length ≤ 1048576 ∧ ∀ x ∈ l, okSlot x) [], (fun (l : List TSlot) => (dS (mView (l.map txSlot)) : D)) [], (fun (l : List TSlot) => []) []) :=
  mkCon_fn (fun x y h _ => c12_inj x y h) ([] : (List TSlot)) (by simp [nz, nz1, ML_nil, encLTSlot]) rfl
theorem c12_pc (l : List TSlot) (hpre : l.length ≤ 1048576 ∧ ∀ x ∈ l, okSlot x) : PCo Tryd.prog 12 [encLTSlot l] (Tab.of []) (dS (mView (l.map txSlot))) (Tab.of []) := by
  refine pco_of_run [] (E := ⟨[c26, c27], []⟩) (m := false) (base := 0) (Env.ok_cons c26_ok (Env.ok_cons c27_ok Env.ok_nil)) G_ok mix 300 6 Tryd.func12 (by kernel_rfl) rfl (by kernel_rfl) (by kernel_rfl) rfl ?_
  simp [Tryd.f12]
  obtain ⟨hl, hx⟩ := hpre
  refine loop_inv (fun p : Nat => p ≤ l.length) (fun p => [(0, encLTSlot l), (3, .own (0, 1) 1 0 p), (4, dI p)]) (fun p => [((0, 1), .arr false 1 (dS ⟨#[]⟩) (ML dS ((l.take p).map txSlot)))]) 2 (fun p => l.length - p) 0 400 (by simp) (by simp) (by simp) ?_
  intro p hp
  simp
  refine ⟨fun hlt => ?_, fun hge => ?_⟩
  · have hs : List.take (p + 1) (l.map txSlot) = List.take p (l.map txSlot) ++ [txSlot (l[p]?.getD default)] := by rw [take_at (d := txSlot default) (by simpa using hlt), ← map_at2 (d := default) hlt]
    have hm : min p l.length = p := by omega
    have hx1 := hx _ (getD_mem (d := default) hlt)
    have hb : okSlot (l[p]?.getD default) := hx1
    simp only [okSlot, okI] at hb
    have z1 : (⟨#[58]⟩ : ByteArray).size = 1 := rfl
    have z2 : (⟨#[46]⟩ : ByteArray).size = 1 := rfl
    have z3 : (⟨#[47]⟩ : ByteArray).size = 1 := rfl
    have s1 := int_le hx1.1; have s2 := int_le hx1.2.2; have tx : True := trivial; have tx1 : (l[p]?.getD default).Thing = 0 → txSlot (l[p]?.getD default) = (mInt (l[p]?.getD default).Id ++ ⟨#[58]⟩) ++ ⟨#[46]⟩ := fun h => (by rw [txSlot, if_pos h]); have tx2 : ¬ (l[p]?.getD default).Thing = 0 → txSlot (l[p]?.getD default) = (mInt (l[p]?.getD default).Id ++ ⟨#[58]⟩) ++ mInt (l[p]?.getD default).Thing := fun h => (by rw [txSlot, if_neg h])
    repeat' (first | omega | refine And.intro ?_ ?_ | intro _)
    all_goals first
      | (refine Again.mk (p + 1) (by omega) ?_ (by first | omega | (simp; omega)); simp [hs, hm, tx]; done)
      | (refine Again.mk (p + 1) (by omega) ?_ (by first | omega | (simp; omega)); have tx1 := tx1 (by assumption); simp [hs, hm, tx1]; done)
      | (refine Again.mk (p + 1) (by omega) ?_ (by first | omega | (simp; omega)); have tx2 := tx2 (by assumption); simp [hs, hm, tx2]; done)
  · have : p = l.length := by omega
    subst this
    have hs2 : List.take l.length (List.map txSlot l) = List.map txSlot l := by rw [← List.map_take, List.take_length]
    have hle : ∀ x ∈ l, (txSlot x).size ≤ 100 := fun x h => txSlot_le (hx x h)
    simp [lendD, hs2]
    exact ⟨by omega, hle⟩
theorem c12_ok : c12.ok Tryd.prog := mkCon_ok fun l hpre => c12_pc l hpre
/-- loop.example/g03007/impl.FormatHits -/
noncomputable def c24 : Con := mkCon 24 false (α := (List THit)) (fun x => (fun (l : List THit) => [encLTHit l]) x) (fun _ => []) (fun x => (fun (l : List THit) => l.length ≤ 1048576 ∧ ∀ x ∈ l, okHit x) x) (fun x => (fun (l : List THit) => (dS (mView (l.map txHit)) : D)) x) (fun x => (fun (l : List THit) => []) x)
@[simp] theorem c24_f : c24.f = 24 := rfl
@[simp] theorem c24_own : c24.own = false := rfl
theorem c24_inj : ∀ u_ v_ : (List THit), ((fun x => (fun (l : List THit) => [encLTHit l]) x) u_).map nz = ((fun x => (fun (l : List THit) => [encLTHit l]) x) v_).map nz → u_ = v_ := by
  intro u_ v_ h
  obtain l := u_
  obtain l' := v_
  simp [nz_lit, nz1_lit, nz_agg, nz_sl, nz1_sl, encLTHit] at h
  first | (simp [h]; done) | (obtain ⟨⟩ := h; simp_all; done) | simp_all
@[simp] theorem c24_fn (l : List THit) : c24.fn [.sl false 2 yTHit (ML encTHit l)] [] = some ((fun (l : List THit) => l.length ≤ 1048576 ∧ ∀ x ∈ l, okHit x) l, (fun (l : List THit) => (dS (mView (l.map txHit)) : D)) l, (fun (l : List THit) => []) l) :=
  mkCon_fn (fun x y h _ => c24_inj x y h) (l : (List THit)) (by simp [nz, nz1, ML_nil, encLTHit]) rfl
@[simp] theorem c24_fn1 (s_l : Nat) (z_l : D) : c24.fn [.sl false s_l z_l []] [] = some ((fun (l : List THit) => l.length ≤ 1048576 ∧ ∀ x ∈ l, okHit x) [], (fun (l : List THit) => (dS (mView (l.map txHit)) : D)) [], (fun (l : List THit) => []) []) :=
  mkCon_fn (fun x y h _ => c24_inj x y h) ([] : (List THit)) (by simp [nz, nz1, ML_nil, encLTHit]) rfl
theorem c24_pc (l : List THit) (hpre : l.length ≤ 1048576 ∧ ∀ x ∈ l, okHit x) : PCo Tryd.prog 24 [encLTHit l] (Tab.of []) (dS (mView (l.map txHit))) (Tab.of []) := by
  refine pco_of_run [] (E := ⟨[c42, c43, c43], []⟩) (m := false) (base := 0) (Env.ok_cons c42_ok (Env.ok_cons c43_ok (Env.ok_cons c43_ok Env.ok_nil))) G_ok mix 300 6 Tryd.func24 (by kernel_rfl) rfl (by kernel_rfl) (by kernel_rfl) rfl ?_
  simp [Tryd.f24]
  exact hpre
theorem c24_ok : c24.ok Tryd.prog := mkCon_ok fun l hpre => c24_pc l hpre
/-- loop.example/g03007/spec.FormatHits -/
noncomputable def c22 : Con := mkCon 22 false (α := (List THit)) (fun x => (fun (l : List THit) => [encLTHit l]) x) (fun _ => []) (fun x => (fun (l : List THit) => l.length ≤ 1048576 ∧ ∀ x ∈ l, okHit x) x) (fun x => (fun (l : List THit) => (dS (mView (l.map txHit)) : D)) x) (fun x => (fun (l : List THit) => []) x)
@[simp] theorem c22_f : c22.f = 22 := rfl
@[simp] theorem c22_own : c22.own = false := rfl
theorem c22_inj : ∀ u_ v_ : (List THit), ((fun x => (fun (l : List THit) => [encLTHit l]) x) u_).map nz = ((fun x => (fun (l : List THit) => [encLTHit l]) x) v_).map nz → u_ = v_ := by
  intro u_ v_ h
  obtain l := u_
  obtain l' := v_
  simp [nz_lit, nz1_lit, nz_agg, nz_sl, nz1_sl, encLTHit] at h
  first | (simp [h]; done) | (obtain ⟨⟩ := h; simp_all; done) | simp_all
@[simp] theorem c22_fn (l : List THit) : c22.fn [.sl false 2 yTHit (ML encTHit l)] [] = some ((fun (l : List THit) => l.length ≤ 1048576 ∧ ∀ x ∈ l, okHit x) l, (fun (l : List THit) => (dS (mView (l.map txHit)) : D)) l, (fun (l : List THit) => []) l) :=
  mkCon_fn (fun x y h _ => c22_inj x y h) (l : (List THit)) (by simp [nz, nz1, ML_nil, encLTHit]) rfl
@[simp] theorem c22_fn1 (s_l : Nat) (z_l : D) : c22.fn [.sl false s_l z_l []] [] = some ((fun (l : List THit) => l.length ≤ 1048576 ∧ ∀ x ∈ l, okHit x) [], (fun (l : List THit) => (dS (mView (l.map txHit)) : D)) [], (fun (l : List THit) => []) []) :=
  mkCon_fn (fun x y h _ => c22_inj x y h) ([] : (List THit)) (by simp [nz, nz1, ML_nil, encLTHit]) rfl
theorem c22_pc (l : List THit) (hpre : l.length ≤ 1048576 ∧ ∀ x ∈ l, okHit x) : PCo Tryd.prog 22 [encLTHit l] (Tab.of []) (dS (mView (l.map txHit))) (Tab.of []) := by
  refine pco_of_run [5] (E := ⟨[c26, c27], []⟩) (m := false) (base := 0) (Env.ok_cons c26_ok (Env.ok_cons c27_ok Env.ok_nil)) G_ok mix 300 6 Tryd.func22 (by kernel_rfl) rfl (by kernel_rfl) (by kernel_rfl) rfl ?_
  simp [Tryd.f22]
  obtain ⟨hl, hx⟩ := hpre
  refine loop_inv (fun p : Nat => p ≤ l.length) (fun p => [(0, encLTHit l), (3, .own (0, 1) 1 0 p), (4, dI p)]) (fun p => [((0, 1), .arr false 1 (dS ⟨#[]⟩) (ML dS ((l.take p).map txHit)))]) 2 (fun p => l.length - p) 0 400 (by simp) (by simp) (by simp) ?_
  intro p hp
  simp
  refine ⟨fun hlt => ?_, fun hge => ?_⟩
  · have hs : List.take (p + 1) (l.map txHit) = List.take p (l.map txHit) ++ [txHit (l[p]?.getD default)] := by rw [take_at (d := txHit default) (by simpa using hlt), ← map_at2 (d := default) hlt]
    have hm : min p l.length = p := by omega
    have hx1 := hx _ (getD_mem (d := default) hlt)
    have hb : okHit (l[p]?.getD default) := hx1
    simp only [okHit, okI] at hb
    have z1 : (⟨#[58]⟩ : ByteArray).size = 1 := rfl
    have z2 : (⟨#[46]⟩ : ByteArray).size = 1 := rfl
    have z3 : (⟨#[47]⟩ : ByteArray).size = 1 := rfl
    have s1 := int_le hx1.1; have s2 := int_le hx1.2; have tx : txHit (l[p]?.getD default) = (mInt (l[p]?.getD default).House ++ ⟨#[47]⟩) ++ mInt (l[p]?.getD default).Thing := rfl; have tx1 : False → True := fun _ => trivial; have tx2 := tx1
    repeat' (first | omega | refine And.intro ?_ ?_ | intro _)
    all_goals first
      | (refine Again.mk (p + 1) (by omega) ?_ (by first | omega | (simp; omega)); simp [hs, hm, tx]; done)
      | (refine Again.mk (p + 1) (by omega) ?_ (by first | omega | (simp; omega)); have tx1 := tx1 (by assumption); simp [hs, hm, tx1]; done)
      | (refine Again.mk (p + 1) (by omega) ?_ (by first | omega | (simp; omega)); have tx2 := tx2 (by assumption); simp [hs, hm, tx2]; done)
  · have : p = l.length := by omega
    subst this
    have hs2 : List.take l.length (List.map txHit l) = List.map txHit l := by rw [← List.map_take, List.take_length]
    have hle : ∀ x ∈ l, (txHit x).size ≤ 100 := fun x h => txHit_le (hx x h)
    simp [lendD, hs2]
    exact ⟨by omega, hle⟩
theorem c22_ok : c22.ok Tryd.prog := mkCon_ok fun l hpre => c22_pc l hpre
/-- loop.example/g03007/laws.FnExactFormatNumbers -/
theorem law3 (l : List Int) (wl : wfLI l) : PCo Tryd.prog 3 [encLI l] (Tab.of []) (dB true) (Tab.of []) := by
  refine pco_of_run [] (E := ⟨[c7, c8, c9, c10], []⟩) (m := false) (base := 0) (Env.ok_cons c7_ok (Env.ok_cons c8_ok (Env.ok_cons c9_ok (Env.ok_cons c10_ok Env.ok_nil)))) G_ok mix 400 6 Tryd.func3 (by kernel_rfl) rfl (by kernel_rfl) (by kernel_rfl) rfl ?_
  simp (config := {maxSteps := 3000000}) [Tryd.f3]
  have h1 := wl.1
  have h2 : ∀ x ∈ l, okI x := fun x hx => by have := wl.2 x hx; simpa [inR, okI] using this
  exact fun h => ⟨⟨by omega, by omega, h2⟩, by omega, ⟨by omega, h2⟩, by omega⟩
theorem law3_pc (D0 : D) (h0 : Sh G 9 22 D0) : PC Tryd.prog 3 [D0] (dB true) [] := by
  obtain ⟨l, rfl, wl⟩ := sh22 (n := 7) h0
  exact law3 l wl
/-- loop.example/g03007/laws.toSlot -/
noncomputable def c30 : Con := mkCon 30 false (α := TSlot) (fun x => (fun (a : TSlot) => [encTSlot a]) x) (fun _ => []) (fun x => (fun (a : TSlot) => True) x) (fun x => (fun (a : TSlot) => (encTSlot a : D)) x) (fun x => (fun (a : TSlot) => []) x)
@[simp] theorem c30_f : c30.f = 30 := rfl
@[simp] theorem c30_own : c30.own = false := rfl
theorem c30_inj : ∀ u_ v_ : TSlot, ((fun x => (fun (a : TSlot) => [encTSlot a]) x) u_).map nz = ((fun x => (fun (a : TSlot) => [encTSlot a]) x) v_).map nz → u_ = v_ := by
  intro u_ v_ h
  obtain ⟨a_Id, a_Size, a_Thing⟩ := u_
  obtain ⟨a_Id', a_Size', a_Thing'⟩ := v_
  simp [nz_lit, nz1_lit, nz_agg, nz_sl, nz1_sl, encTSlot] at h
  first | (simp [h]; done) | (obtain ⟨⟩ := h; simp_all; done) | simp_all
@[simp] theorem c30_fn (a_Id : Int) (a_Size : Int) (a_Thing : Int) : c30.fn [.agg [.lit (.int .i64 a_Id), .lit (.int .i64 a_Size), .lit (.int .i64 a_Thing)]] [] = some ((fun (a : TSlot) => True) ⟨a_Id, a_Size, a_Thing⟩, (fun (a : TSlot) => (encTSlot a : D)) ⟨a_Id, a_Size, a_Thing⟩, (fun (a : TSlot) => []) ⟨a_Id, a_Size, a_Thing⟩) :=
  mkCon_fn (fun x y h _ => c30_inj x y h) (⟨a_Id, a_Size, a_Thing⟩ : TSlot) (by simp [nz, nz1, ML_nil, encTSlot]) rfl
theorem c30_pc (a : TSlot) : PCo Tryd.prog 30 [encTSlot a] (Tab.of []) (encTSlot a) (Tab.of []) := by
  obtain ⟨a_Id, a_Size, a_Thing⟩ := a
  refine pco_of_run [] (E := ⟨[], []⟩) (m := false) (base := 0) Env.ok_nil G_ok mix 300 6 Tryd.func30 (by kernel_rfl) rfl (by kernel_rfl) (by kernel_rfl) rfl ?_
  simp [Tryd.f30]
  all_goals first | omega | (rw [Bool.eq_iff_iff]; simp; omega) | grind
theorem c30_ok : c30.ok Tryd.prog := mkCon_ok fun a hpre => c30_pc a
/-- loop.example/g03007/laws.eqSlot -/
noncomputable def c34 : Con := mkCon 34 false (α := TSlot × TSlot) (fun x => (fun (a : TSlot) (b : TSlot) => [encTSlot a, encTSlot b]) x.1 x.2) (fun _ => []) (fun x => (fun (a : TSlot) (b : TSlot) => True) x.1 x.2) (fun x => (fun (a : TSlot) (b : TSlot) => (dB (decide (a = b)) : D)) x.1 x.2) (fun x => (fun (a : TSlot) (b : TSlot) => []) x.1 x.2)
@[simp] theorem c34_f : c34.f = 34 := rfl
@[simp] theorem c34_own : c34.own = false := rfl
theorem c34_inj : ∀ u_ v_ : TSlot × TSlot, ((fun x => (fun (a : TSlot) (b : TSlot) => [encTSlot a, encTSlot b]) x.1 x.2) u_).map nz = ((fun x => (fun (a : TSlot) (b : TSlot) => [encTSlot a, encTSlot b]) x.1 x.2) v_).map nz → u_ = v_ := by
  intro u_ v_ h
  obtain ⟨⟨a_Id, a_Size, a_Thing⟩, ⟨b_Id, b_Size, b_Thing⟩⟩ := u_
  obtain ⟨⟨a_Id', a_Size', a_Thing'⟩, ⟨b_Id', b_Size', b_Thing'⟩⟩ := v_
  simp [nz_lit, nz1_lit, nz_agg, nz_sl, nz1_sl, encTSlot] at h
  first | (simp [h]; done) | (obtain ⟨⟩ := h; simp_all; done) | simp_all
@[simp] theorem c34_fn (a_Id : Int) (a_Size : Int) (a_Thing : Int) (b_Id : Int) (b_Size : Int) (b_Thing : Int) : c34.fn [.agg [.lit (.int .i64 a_Id), .lit (.int .i64 a_Size), .lit (.int .i64 a_Thing)], .agg [.lit (.int .i64 b_Id), .lit (.int .i64 b_Size), .lit (.int .i64 b_Thing)]] [] = some ((fun (a : TSlot) (b : TSlot) => True) ⟨a_Id, a_Size, a_Thing⟩ ⟨b_Id, b_Size, b_Thing⟩, (fun (a : TSlot) (b : TSlot) => (dB (decide (a = b)) : D)) ⟨a_Id, a_Size, a_Thing⟩ ⟨b_Id, b_Size, b_Thing⟩, (fun (a : TSlot) (b : TSlot) => []) ⟨a_Id, a_Size, a_Thing⟩ ⟨b_Id, b_Size, b_Thing⟩) :=
  mkCon_fn (fun x y h _ => c34_inj x y h) ((⟨a_Id, a_Size, a_Thing⟩, ⟨b_Id, b_Size, b_Thing⟩) : TSlot × TSlot) (by simp [nz, nz1, ML_nil, encTSlot]) rfl
theorem c34_pc (a : TSlot) (b : TSlot) : PCo Tryd.prog 34 [encTSlot a, encTSlot b] (Tab.of []) (dB (decide (a = b))) (Tab.of []) := by
  obtain ⟨a_Id, a_Size, a_Thing⟩ := a
  obtain ⟨b_Id, b_Size, b_Thing⟩ := b
  refine pco_of_run [] (E := ⟨[], []⟩) (m := false) (base := 0) Env.ok_nil G_ok mix 300 6 Tryd.func34 (by kernel_rfl) rfl (by kernel_rfl) (by kernel_rfl) rfl ?_
  simp [Tryd.f34]
  all_goals first | omega | (rw [Bool.eq_iff_iff]; simp; omega) | grind
theorem c34_ok : c34.ok Tryd.prog := mkCon_ok fun ⟨a, b⟩ hpre => c34_pc a b
/-- loop.example/g03007/laws.szSlotS -/
noncomputable def c11 : Con := mkCon 11 false (α := (List TSlot) × Int) (fun x => (fun (l : List TSlot) (left : Int) => [encLTSlot l, dI left]) x.1 x.2) (fun _ => []) (fun x => (fun (l : List TSlot) (left : Int) => l.length ≤ maxLen ∧ 0 ≤ left ∧ left ≤ 1099511627776) x.1 x.2) (fun x => (fun (l : List TSlot) (left : Int) => (dI (if left - l.length < 0 then -1 else left - l.length) : D)) x.1 x.2) (fun x => (fun (l : List TSlot) (left : Int) => []) x.1 x.2)
@[simp] theorem c11_f : c11.f = 11 := rfl
@[simp] theorem c11_own : c11.own = false := rfl
theorem c11_inj : ∀ u_ v_ : (List TSlot) × Int, ((fun x => (fun (l : List TSlot) (left : Int) => [encLTSlot l, dI left]) x.1 x.2) u_).map nz = ((fun x => (fun (l : List TSlot) (left : Int) => [encLTSlot l, dI left]) x.1 x.2) v_).map nz → u_ = v_ := by
  intro u_ v_ h
  obtain ⟨l, left⟩ := u_
  obtain ⟨l', left'⟩ := v_
  simp [nz_lit, nz1_lit, nz_agg, nz_sl, nz1_sl, encLTSlot] at h
  first | (simp [h]; done) | (obtain ⟨⟩ := h; simp_all; done) | simp_all
@[simp] theorem c11_fn (l : List TSlot) (left : Int) : c11.fn [.sl false 3 yTSlot (ML encTSlot l), .lit (.int .i64 left)] [] = some ((fun (l : List TSlot) (left : Int) => l.length ≤ maxLen ∧ 0 ≤ left ∧ left ≤ 1099511627776) l left, (fun (l : List TSlot) (left : Int) => (dI (if left - l.length < 0 then -1 else left - l.length) : D)) l left, (fun (l : List TSlot) (left : Int) => []) l left) :=
  mkCon_fn (fun x y h _ => c11_inj x y h) ((l, left) : (List TSlot) × Int) (by simp [nz, nz1, ML_nil, encLTSlot]) rfl
@[simp] theorem c11_fn1 (s_l : Nat) (z_l : D) (left : Int) : c11.fn [.sl false s_l z_l [], .lit (.int .i64 left)] [] = some ((fun (l : List TSlot) (left : Int) => l.length ≤ maxLen ∧ 0 ≤ left ∧ left ≤ 1099511627776) [] left, (fun (l : List TSlot) (left : Int) => (dI (if left - l.length < 0 then -1 else left - l.length) : D)) [] left, (fun (l : List TSlot) (left : Int) => []) [] left) :=
  mkCon_fn (fun x y h _ => c11_inj x y h) (([], left) : (List TSlot) × Int) (by simp [nz, nz1, ML_nil, encLTSlot]) rfl
theorem c11_pc (l : List TSlot) (left : Int) (hpre : l.length ≤ maxLen ∧ 0 ≤ left ∧ left ≤ 1099511627776) : PCo Tryd.prog 11 [encLTSlot l, dI left] (Tab.of []) (dI (if left - l.length < 0 then -1 else left - l.length)) (Tab.of []) := by
  refine pco_of_run [] (E := ⟨[], []⟩) (m := false) (base := 0) Env.ok_nil G_ok mix 300 6 Tryd.func11 (by kernel_rfl) rfl (by kernel_rfl) (by kernel_rfl) rfl ?_
  simp [Tryd.f11]
  simp [maxLen] at hpre
  all_goals omega
theorem c11_ok : c11.ok Tryd.prog := mkCon_ok fun ⟨l, left⟩ hpre => c11_pc l left hpre
/-- loop.example/g03007/laws.toSlotS -/
noncomputable def c13 : Con := mkCon 13 false (α := (List TSlot)) (fun x => (fun (l : List TSlot) => [encLTSlot l]) x) (fun _ => []) (fun x => (fun (l : List TSlot) => l.length ≤ 1099511627776) x) (fun x => (fun (l : List TSlot) => (encLTSlot l : D)) x) (fun x => (fun (l : List TSlot) => []) x)
@[simp] theorem c13_f : c13.f = 13 := rfl
@[simp] theorem c13_own : c13.own = false := rfl
theorem c13_inj : ∀ u_ v_ : (List TSlot), ((fun x => (fun (l : List TSlot) => [encLTSlot l]) x) u_).map nz = ((fun x => (fun (l : List TSlot) => [encLTSlot l]) x) v_).map nz → u_ = v_ := by
  intro u_ v_ h
  obtain l := u_
  obtain l' := v_
  simp [nz_lit, nz1_lit, nz_agg, nz_sl, nz1_sl, encLTSlot] at h
  first | (simp [h]; done) | (obtain ⟨⟩ := h; simp_all; done) | simp_all
@[simp] theorem c13_fn (l : List TSlot) : c13.fn [.sl false 3 yTSlot (ML encTSlot l)] [] = some ((fun (l : List TSlot) => l.length ≤ 1099511627776) l, (fun (l : List TSlot) => (encLTSlot l : D)) l, (fun (l : List TSlot) => []) l) :=
  mkCon_fn (fun x y h _ => c13_inj x y h) (l : (List TSlot)) (by simp [nz, nz1, ML_nil, encLTSlot]) rfl
@[simp] theorem c13_fn1 (s_l : Nat) (z_l : D) : c13.fn [.sl false s_l z_l []] [] = some ((fun (l : List TSlot) => l.length ≤ 1099511627776) [], (fun (l : List TSlot) => (encLTSlot l : D)) [], (fun (l : List TSlot) => []) []) :=
  mkCon_fn (fun x y h _ => c13_inj x y h) ([] : (List TSlot)) (by simp [nz, nz1, ML_nil, encLTSlot]) rfl
theorem c13_pc (l : List TSlot) (hpre : l.length ≤ 1099511627776) : PCo Tryd.prog 13 [encLTSlot l] (Tab.of []) (encLTSlot l) (Tab.of []) := by
  refine pco_of_run [] (E := ⟨[c30], []⟩) (m := false) (base := 0) (Env.ok_cons c30_ok Env.ok_nil) G_ok mix 300 6 Tryd.func13 (by kernel_rfl) rfl (by kernel_rfl) (by kernel_rfl) rfl ?_
  simp [Tryd.f13]
  refine ⟨by omega, ?_⟩
  refine loop_inv (fun p : Nat => p ≤ l.length) (fun p => [(0, encLTSlot l), (3, .own (0, 1) 3 0 l.length), (4, dI p)]) (fun p => [((0, 1), .arr false 3 yTSlot (ML encTSlot (l.take p ++ List.replicate (l.length - p) ⟨0, 0, 0⟩)))]) 2 (fun p => l.length - p) 0 100 (by simp) (by simp) (by first | (simp; done) | (simp; simp only [ML, List.map_replicate]; rfl)) ?_
  intro p hp
  simp
  refine ⟨fun hlt => ⟨by omega, by omega, Again.mk (p + 1) (by omega) (by simp [fill_step hlt]) (by first | omega | (simp; omega))⟩, fun hge => ?_⟩
  have : p = l.length := by omega
  subst this
  simp
theorem c13_ok : c13.ok Tryd.prog := mkCon_ok fun l hpre => c13_pc l hpre
/-- loop.example/g03007/laws.eqSlotS -/
noncomputable def c15 : Con := mkCon 15 false (α := (List TSlot) × (List TSlot)) (fun x => (fun (a : List TSlot) (b : List TSlot) => [encLTSlot a, encLTSlot b]) x.1 x.2) (fun _ => []) (fun x => (fun (a : List TSlot) (b : List TSlot) => a.length ≤ 1099511627776 ∧ b.length ≤ 1099511627776) x.1 x.2) (fun x => (fun (a : List TSlot) (b : List TSlot) => (dB (decide (a = b)) : D)) x.1 x.2) (fun x => (fun (a : List TSlot) (b : List TSlot) => []) x.1 x.2)
@[simp] theorem c15_f : c15.f = 15 := rfl
@[simp] theorem c15_own : c15.own = false := rfl
theorem c15_inj : ∀ u_ v_ : (List TSlot) × (List TSlot), ((fun x => (fun (a : List TSlot) (b : List TSlot) => [encLTSlot a, encLTSlot b]) x.1 x.2) u_).map nz = ((fun x => (fun (a : List TSlot) (b : List TSlot) => [encLTSlot a, encLTSlot b]) x.1 x.2) v_).map nz → u_ = v_ := by
  intro u_ v_ h
  obtain ⟨a, b⟩ := u_
  obtain ⟨a', b'⟩ := v_
  simp [nz_lit, nz1_lit, nz_agg, nz_sl, nz1_sl, encLTSlot] at h
  first | (simp [h]; done) | (obtain ⟨⟩ := h; simp_all; done) | simp_all
@[simp] theorem c15_fn (a : List TSlot) (b : List TSlot) : c15.fn [.sl false 3 yTSlot (ML encTSlot a), .sl false 3 yTSlot (ML encTSlot b)] [] = some ((fun (a : List TSlot) (b : List TSlot) => a.length ≤ 1099511627776 ∧ b.length ≤ 1099511627776) a b, (fun (a : List TSlot) (b : List TSlot) => (dB (decide (a = b)) : D)) a b, (fun (a : List TSlot) (b : List TSlot) => []) a b) :=
  mkCon_fn (fun x y h _ => c15_inj x y h) ((a, b) : (List TSlot) × (List TSlot)) (by simp [nz, nz1, ML_nil, encLTSlot]) rfl
@[simp] theorem c15_fn1 (s_a : Nat) (z_a : D) (b : List TSlot) : c15.fn [.sl false s_a z_a [], .sl false 3 yTSlot (ML encTSlot b)] [] = some ((fun (a : List TSlot) (b : List TSlot) => a.length ≤ 1099511627776 ∧ b.length ≤ 1099511627776) [] b, (fun (a : List TSlot) (b : List TSlot) => (dB (decide (a = b)) : D)) [] b, (fun (a : List TSlot) (b : List TSlot) => []) [] b) :=
  mkCon_fn (fun x y h _ => c15_inj x y h) (([], b) : (List TSlot) × (List TSlot)) (by simp [nz, nz1, ML_nil, encLTSlot]) rfl
@[simp] theorem c15_fn2 (a : List TSlot) (s_b : Nat) (z_b : D) : c15.fn [.sl false 3 yTSlot (ML encTSlot a), .sl false s_b z_b []] [] = some ((fun (a : List TSlot) (b : List TSlot) => a.length ≤ 1099511627776 ∧ b.length ≤ 1099511627776) a [], (fun (a : List TSlot) (b : List TSlot) => (dB (decide (a = b)) : D)) a [], (fun (a : List TSlot) (b : List TSlot) => []) a []) :=
  mkCon_fn (fun x y h _ => c15_inj x y h) ((a, []) : (List TSlot) × (List TSlot)) (by simp [nz, nz1, ML_nil, encLTSlot]) rfl
@[simp] theorem c15_fn3 (s_a : Nat) (z_a : D) (s_b : Nat) (z_b : D) : c15.fn [.sl false s_a z_a [], .sl false s_b z_b []] [] = some ((fun (a : List TSlot) (b : List TSlot) => a.length ≤ 1099511627776 ∧ b.length ≤ 1099511627776) [] [], (fun (a : List TSlot) (b : List TSlot) => (dB (decide (a = b)) : D)) [] [], (fun (a : List TSlot) (b : List TSlot) => []) [] []) :=
  mkCon_fn (fun x y h _ => c15_inj x y h) (([], []) : (List TSlot) × (List TSlot)) (by simp [nz, nz1, ML_nil, encLTSlot]) rfl
theorem c15_pc (a : List TSlot) (b : List TSlot) (hpre : a.length ≤ 1099511627776 ∧ b.length ≤ 1099511627776) : PCo Tryd.prog 15 [encLTSlot a, encLTSlot b] (Tab.of []) (dB (decide (a = b))) (Tab.of []) := by
  refine pco_of_run [] (E := ⟨[c34], []⟩) (m := false) (base := 0) (Env.ok_cons c34_ok Env.ok_nil) G_ok mix 300 6 Tryd.func15 (by kernel_rfl) rfl (by kernel_rfl) (by kernel_rfl) rfl ?_
  simp [Tryd.f15]
  obtain ⟨pre1, pre2⟩ := hpre
  refine ⟨fun h => ?_, fun h => by intro e; subst e; exact absurd rfl h⟩
  refine loop_inv (fun p : Nat => p ≤ a.length ∧ a.take p = b.take p) (fun p => [(0, encLTSlot a), (1, encLTSlot b), (5, dI p)]) (fun _ => []) 1 (fun p => a.length - p) 0 100 (by simp) (by simp) (by simp) ?_
  intro p ⟨hp, hi⟩
  simp
  refine ⟨fun hlt => ⟨by omega, fun h2 => ⟨by omega, Again.mk (p + 1) ⟨by omega, take_eq_step hi (by omega) (by omega) h2⟩ (by simp) (by first | omega | (simp; omega))⟩, fun h2 => by intro e; subst e; exact absurd rfl h2⟩, fun hge => ?_⟩
  exact take_eq_full hi (by omega) (by omega)
theorem c15_ok : c15.ok Tryd.prog := mkCon_ok fun ⟨a, b⟩ hpre => c15_pc a b hpre
/-- loop.example/g03007/laws.toHit -/
noncomputable def c41 : Con := mkCon 41 false (α := THit) (fun x => (fun (a : THit) => [encTHit a]) x) (fun _ => []) (fun x => (fun (a : THit) => True) x) (fun x => (fun (a : THit) => (encTHit a : D)) x) (fun x => (fun (a : THit) => []) x)
@[simp] theorem c41_f : c41.f = 41 := rfl
@[simp] theorem c41_own : c41.own = false := rfl
theorem c41_inj : ∀ u_ v_ : THit, ((fun x => (fun (a : THit) => [encTHit a]) x) u_).map nz = ((fun x => (fun (a : THit) => [encTHit a]) x) v_).map nz → u_ = v_ := by
  intro u_ v_ h
  obtain ⟨a_House, a_Thing⟩ := u_
  obtain ⟨a_House', a_Thing'⟩ := v_
  simp [nz_lit, nz1_lit, nz_agg, nz_sl, nz1_sl, encTHit] at h
  first | (simp [h]; done) | (obtain ⟨⟩ := h; simp_all; done) | simp_all
@[simp] theorem c41_fn (a_House : Int) (a_Thing : Int) : c41.fn [.agg [.lit (.int .i64 a_House), .lit (.int .i64 a_Thing)]] [] = some ((fun (a : THit) => True) ⟨a_House, a_Thing⟩, (fun (a : THit) => (encTHit a : D)) ⟨a_House, a_Thing⟩, (fun (a : THit) => []) ⟨a_House, a_Thing⟩) :=
  mkCon_fn (fun x y h _ => c41_inj x y h) (⟨a_House, a_Thing⟩ : THit) (by simp [nz, nz1, ML_nil, encTHit]) rfl
theorem c41_pc (a : THit) : PCo Tryd.prog 41 [encTHit a] (Tab.of []) (encTHit a) (Tab.of []) := by
  obtain ⟨a_House, a_Thing⟩ := a
  refine pco_of_run [] (E := ⟨[], []⟩) (m := false) (base := 0) Env.ok_nil G_ok mix 300 6 Tryd.func41 (by kernel_rfl) rfl (by kernel_rfl) (by kernel_rfl) rfl ?_
  simp [Tryd.f41]
  all_goals first | omega | (rw [Bool.eq_iff_iff]; simp; omega) | grind
theorem c41_ok : c41.ok Tryd.prog := mkCon_ok fun a hpre => c41_pc a
/-- loop.example/g03007/laws.eqHit -/
noncomputable def c44 : Con := mkCon 44 false (α := THit × THit) (fun x => (fun (a : THit) (b : THit) => [encTHit a, encTHit b]) x.1 x.2) (fun _ => []) (fun x => (fun (a : THit) (b : THit) => True) x.1 x.2) (fun x => (fun (a : THit) (b : THit) => (dB (decide (a = b)) : D)) x.1 x.2) (fun x => (fun (a : THit) (b : THit) => []) x.1 x.2)
@[simp] theorem c44_f : c44.f = 44 := rfl
@[simp] theorem c44_own : c44.own = false := rfl
theorem c44_inj : ∀ u_ v_ : THit × THit, ((fun x => (fun (a : THit) (b : THit) => [encTHit a, encTHit b]) x.1 x.2) u_).map nz = ((fun x => (fun (a : THit) (b : THit) => [encTHit a, encTHit b]) x.1 x.2) v_).map nz → u_ = v_ := by
  intro u_ v_ h
  obtain ⟨⟨a_House, a_Thing⟩, ⟨b_House, b_Thing⟩⟩ := u_
  obtain ⟨⟨a_House', a_Thing'⟩, ⟨b_House', b_Thing'⟩⟩ := v_
  simp [nz_lit, nz1_lit, nz_agg, nz_sl, nz1_sl, encTHit] at h
  first | (simp [h]; done) | (obtain ⟨⟩ := h; simp_all; done) | simp_all
@[simp] theorem c44_fn (a_House : Int) (a_Thing : Int) (b_House : Int) (b_Thing : Int) : c44.fn [.agg [.lit (.int .i64 a_House), .lit (.int .i64 a_Thing)], .agg [.lit (.int .i64 b_House), .lit (.int .i64 b_Thing)]] [] = some ((fun (a : THit) (b : THit) => True) ⟨a_House, a_Thing⟩ ⟨b_House, b_Thing⟩, (fun (a : THit) (b : THit) => (dB (decide (a = b)) : D)) ⟨a_House, a_Thing⟩ ⟨b_House, b_Thing⟩, (fun (a : THit) (b : THit) => []) ⟨a_House, a_Thing⟩ ⟨b_House, b_Thing⟩) :=
  mkCon_fn (fun x y h _ => c44_inj x y h) ((⟨a_House, a_Thing⟩, ⟨b_House, b_Thing⟩) : THit × THit) (by simp [nz, nz1, ML_nil, encTHit]) rfl
theorem c44_pc (a : THit) (b : THit) : PCo Tryd.prog 44 [encTHit a, encTHit b] (Tab.of []) (dB (decide (a = b))) (Tab.of []) := by
  obtain ⟨a_House, a_Thing⟩ := a
  obtain ⟨b_House, b_Thing⟩ := b
  refine pco_of_run [] (E := ⟨[], []⟩) (m := false) (base := 0) Env.ok_nil G_ok mix 300 6 Tryd.func44 (by kernel_rfl) rfl (by kernel_rfl) (by kernel_rfl) rfl ?_
  simp [Tryd.f44]
  all_goals first | omega | (rw [Bool.eq_iff_iff]; simp; omega) | grind
theorem c44_ok : c44.ok Tryd.prog := mkCon_ok fun ⟨a, b⟩ hpre => c44_pc a b
/-- loop.example/g03007/laws.szHitS -/
noncomputable def c21 : Con := mkCon 21 false (α := (List THit) × Int) (fun x => (fun (l : List THit) (left : Int) => [encLTHit l, dI left]) x.1 x.2) (fun _ => []) (fun x => (fun (l : List THit) (left : Int) => l.length ≤ maxLen ∧ 0 ≤ left ∧ left ≤ 1099511627776) x.1 x.2) (fun x => (fun (l : List THit) (left : Int) => (dI (if left - l.length < 0 then -1 else left - l.length) : D)) x.1 x.2) (fun x => (fun (l : List THit) (left : Int) => []) x.1 x.2)
@[simp] theorem c21_f : c21.f = 21 := rfl
@[simp] theorem c21_own : c21.own = false := rfl
theorem c21_inj : ∀ u_ v_ : (List THit) × Int, ((fun x => (fun (l : List THit) (left : Int) => [encLTHit l, dI left]) x.1 x.2) u_).map nz = ((fun x => (fun (l : List THit) (left : Int) => [encLTHit l, dI left]) x.1 x.2) v_).map nz → u_ = v_ := by
  intro u_ v_ h
  obtain ⟨l, left⟩ := u_
  obtain ⟨l', left'⟩ := v_
  simp [nz_lit, nz1_lit, nz_agg, nz_sl, nz1_sl, encLTHit] at h
  first | (simp [h]; done) | (obtain ⟨⟩ := h; simp_all; done) | simp_all
@[simp] theorem c21_fn (l : List THit) (left : Int) : c21.fn [.sl false 2 yTHit (ML encTHit l), .lit (.int .i64 left)] [] = some ((fun (l : List THit) (left : Int) => l.length ≤ maxLen ∧ 0 ≤ left ∧ left ≤ 1099511627776) l left, (fun (l : List THit) (left : Int) => (dI (if left - l.length < 0 then -1 else left - l.length) : D)) l left, (fun (l : List THit) (left : Int) => []) l left) :=
  mkCon_fn (fun x y h _ => c21_inj x y h) ((l, left) : (List THit) × Int) (by simp [nz, nz1, ML_nil, encLTHit]) rfl
@[simp] theorem c21_fn1 (s_l : Nat) (z_l : D) (left : Int) : c21.fn [.sl false s_l z_l [], .lit (.int .i64 left)] [] = some ((fun (l : List THit) (left : Int) => l.length ≤ maxLen ∧ 0 ≤ left ∧ left ≤ 1099511627776) [] left, (fun (l : List THit) (left : Int) => (dI (if left - l.length < 0 then -1 else left - l.length) : D)) [] left, (fun (l : List THit) (left : Int) => []) [] left) :=
  mkCon_fn (fun x y h _ => c21_inj x y h) (([], left) : (List THit) × Int) (by simp [nz, nz1, ML_nil, encLTHit]) rfl
theorem c21_pc (l : List THit) (left : Int) (hpre : l.length ≤ maxLen ∧ 0 ≤ left ∧ left ≤ 1099511627776) : PCo Tryd.prog 21 [encLTHit l, dI left] (Tab.of []) (dI (if left - l.length < 0 then -1 else left - l.length)) (Tab.of []) := by
  refine pco_of_run [] (E := ⟨[], []⟩) (m := false) (base := 0) Env.ok_nil G_ok mix 300 6 Tryd.func21 (by kernel_rfl) rfl (by kernel_rfl) (by kernel_rfl) rfl ?_
  simp [Tryd.f21]
  simp [maxLen] at hpre
  all_goals omega
theorem c21_ok : c21.ok Tryd.prog := mkCon_ok fun ⟨l, left⟩ hpre => c21_pc l left hpre
/-- loop.example/g03007/laws.toHitS -/
noncomputable def c23 : Con := mkCon 23 false (α := (List THit)) (fun x => (fun (l : List THit) => [encLTHit l]) x) (fun _ => []) (fun x => (fun (l : List THit) => l.length ≤ 1099511627776) x) (fun x => (fun (l : List THit) => (encLTHit l : D)) x) (fun x => (fun (l : List THit) => []) x)
@[simp] theorem c23_f : c23.f = 23 := rfl
@[simp] theorem c23_own : c23.own = false := rfl
theorem c23_inj : ∀ u_ v_ : (List THit), ((fun x => (fun (l : List THit) => [encLTHit l]) x) u_).map nz = ((fun x => (fun (l : List THit) => [encLTHit l]) x) v_).map nz → u_ = v_ := by
  intro u_ v_ h
  obtain l := u_
  obtain l' := v_
  simp [nz_lit, nz1_lit, nz_agg, nz_sl, nz1_sl, encLTHit] at h
  first | (simp [h]; done) | (obtain ⟨⟩ := h; simp_all; done) | simp_all
@[simp] theorem c23_fn (l : List THit) : c23.fn [.sl false 2 yTHit (ML encTHit l)] [] = some ((fun (l : List THit) => l.length ≤ 1099511627776) l, (fun (l : List THit) => (encLTHit l : D)) l, (fun (l : List THit) => []) l) :=
  mkCon_fn (fun x y h _ => c23_inj x y h) (l : (List THit)) (by simp [nz, nz1, ML_nil, encLTHit]) rfl
@[simp] theorem c23_fn1 (s_l : Nat) (z_l : D) : c23.fn [.sl false s_l z_l []] [] = some ((fun (l : List THit) => l.length ≤ 1099511627776) [], (fun (l : List THit) => (encLTHit l : D)) [], (fun (l : List THit) => []) []) :=
  mkCon_fn (fun x y h _ => c23_inj x y h) ([] : (List THit)) (by simp [nz, nz1, ML_nil, encLTHit]) rfl
theorem c23_pc (l : List THit) (hpre : l.length ≤ 1099511627776) : PCo Tryd.prog 23 [encLTHit l] (Tab.of []) (encLTHit l) (Tab.of []) := by
  refine pco_of_run [] (E := ⟨[c41], []⟩) (m := false) (base := 0) (Env.ok_cons c41_ok Env.ok_nil) G_ok mix 300 6 Tryd.func23 (by kernel_rfl) rfl (by kernel_rfl) (by kernel_rfl) rfl ?_
  simp [Tryd.f23]
  refine ⟨by omega, ?_⟩
  refine loop_inv (fun p : Nat => p ≤ l.length) (fun p => [(0, encLTHit l), (3, .own (0, 1) 2 0 l.length), (4, dI p)]) (fun p => [((0, 1), .arr false 2 yTHit (ML encTHit (l.take p ++ List.replicate (l.length - p) ⟨0, 0⟩)))]) 2 (fun p => l.length - p) 0 100 (by simp) (by simp) (by first | (simp; done) | (simp; simp only [ML, List.map_replicate]; rfl)) ?_
  intro p hp
  simp
  refine ⟨fun hlt => ⟨by omega, by omega, Again.mk (p + 1) (by omega) (by simp [fill_step hlt]) (by first | omega | (simp; omega))⟩, fun hge => ?_⟩
  have : p = l.length := by omega
  subst this
  simp
theorem c23_ok : c23.ok Tryd.prog := mkCon_ok fun l hpre => c23_pc l hpre
/-- loop.example/g03007/laws.eqHitS -/
noncomputable def c25 : Con := mkCon 25 false (α := (List THit) × (List THit)) (fun x => (fun (a : List THit) (b : List THit) => [encLTHit a, encLTHit b]) x.1 x.2) (fun _ => []) (fun x => (fun (a : List THit) (b : List THit) => a.length ≤ 1099511627776 ∧ b.length ≤ 1099511627776) x.1 x.2) (fun x => (fun (a : List THit) (b : List THit) => (dB (decide (a = b)) : D)) x.1 x.2) (fun x => (fun (a : List THit) (b : List THit) => []) x.1 x.2)
@[simp] theorem c25_f : c25.f = 25 := rfl
@[simp] theorem c25_own : c25.own = false := rfl
theorem c25_inj : ∀ u_ v_ : (List THit) × (List THit), ((fun x => (fun (a : List THit) (b : List THit) => [encLTHit a, encLTHit b]) x.1 x.2) u_).map nz = ((fun x => (fun (a : List THit) (b : List THit) => [encLTHit a, encLTHit b]) x.1 x.2) v_).map nz → u_ = v_ := by
  intro u_ v_ h
  obtain ⟨a, b⟩ := u_
  obtain ⟨a', b'⟩ := v_
  simp [nz_lit, nz1_lit, nz_agg, nz_sl, nz1_sl, encLTHit] at h
  first | (simp [h]; done) | (obtain ⟨⟩ := h; simp_all; done) | simp_all
@[simp] theorem c25_fn (a : List THit) (b : List THit) : c25.fn [.sl false 2 yTHit (ML encTHit a), .sl false 2 yTHit (ML encTHit b)] [] = some ((fun (a : List THit) (b : List THit) => a.length ≤ 1099511627776 ∧ b.length ≤ 1099511627776) a b, (fun (a : List THit) (b : List THit) => (dB (decide (a = b)) : D)) a b, (fun (a : List THit) (b : List THit) => []) a b) :=
  mkCon_fn (fun x y h _ => c25_inj x y h) ((a, b) : (List THit) × (List THit)) (by simp [nz, nz1, ML_nil, encLTHit]) rfl
@[simp] theorem c25_fn1 (s_a : Nat) (z_a : D) (b : List THit) : c25.fn [.sl false s_a z_a [], .sl false 2 yTHit (ML encTHit b)] [] = some ((fun (a : List THit) (b : List THit) => a.length ≤ 1099511627776 ∧ b.length ≤ 1099511627776) [] b, (fun (a : List THit) (b : List THit) => (dB (decide (a = b)) : D)) [] b, (fun (a : List THit) (b : List THit) => []) [] b) :=
  mkCon_fn (fun x y h _ => c25_inj x y h) (([], b) : (List THit) × (List THit)) (by simp [nz, nz1, ML_nil, encLTHit]) rfl
@[simp] theorem c25_fn2 (a : List THit) (s_b : Nat) (z_b : D) : c25.fn [.sl false 2 yTHit (ML encTHit a), .sl false s_b z_b []] [] = some ((fun (a : List THit) (b : List THit) => a.length ≤ 1099511627776 ∧ b.length ≤ 1099511627776) a [], (fun (a : List THit) (b : List THit) => (dB (decide (a = b)) : D)) a [], (fun (a : List THit) (b : List THit) => []) a []) :=
  mkCon_fn (fun x y h _ => c25_inj x y h) ((a, []) : (List THit) × (List THit)) (by simp [nz, nz1, ML_nil, encLTHit]) rfl
@[simp] theorem c25_fn3 (s_a : Nat) (z_a : D) (s_b : Nat) (z_b : D) : c25.fn [.sl false s_a z_a [], .sl false s_b z_b []] [] = some ((fun (a : List THit) (b : List THit) => a.length ≤ 1099511627776 ∧ b.length ≤ 1099511627776) [] [], (fun (a : List THit) (b : List THit) => (dB (decide (a = b)) : D)) [] [], (fun (a : List THit) (b : List THit) => []) [] []) :=
  mkCon_fn (fun x y h _ => c25_inj x y h) (([], []) : (List THit) × (List THit)) (by simp [nz, nz1, ML_nil, encLTHit]) rfl
theorem c25_pc (a : List THit) (b : List THit) (hpre : a.length ≤ 1099511627776 ∧ b.length ≤ 1099511627776) : PCo Tryd.prog 25 [encLTHit a, encLTHit b] (Tab.of []) (dB (decide (a = b))) (Tab.of []) := by
  refine pco_of_run [] (E := ⟨[c44], []⟩) (m := false) (base := 0) (Env.ok_cons c44_ok Env.ok_nil) G_ok mix 300 6 Tryd.func25 (by kernel_rfl) rfl (by kernel_rfl) (by kernel_rfl) rfl ?_
  simp [Tryd.f25]
  obtain ⟨pre1, pre2⟩ := hpre
  refine ⟨fun h => ?_, fun h => by intro e; subst e; exact absurd rfl h⟩
  refine loop_inv (fun p : Nat => p ≤ a.length ∧ a.take p = b.take p) (fun p => [(0, encLTHit a), (1, encLTHit b), (5, dI p)]) (fun _ => []) 1 (fun p => a.length - p) 0 100 (by simp) (by simp) (by simp) ?_
  intro p ⟨hp, hi⟩
  simp
  refine ⟨fun hlt => ⟨by omega, fun h2 => ⟨by omega, Again.mk (p + 1) ⟨by omega, take_eq_step hi (by omega) (by omega) h2⟩ (by simp) (by first | omega | (simp; omega))⟩, fun h2 => by intro e; subst e; exact absurd rfl h2⟩, fun hge => ?_⟩
  exact take_eq_full hi (by omega) (by omega)
theorem c25_ok : c25.ok Tryd.prog := mkCon_ok fun ⟨a, b⟩ hpre => c25_pc a b hpre
/-- loop.example/g03007/laws.FnExactFormatSlots -/
theorem law4 (l : List TSlot) (wl : wfLTSlot l) : PCo Tryd.prog 4 [encLTSlot l] (Tab.of []) (dB true) (Tab.of []) := by
  refine pco_of_run [] (E := ⟨[c11, c12, c13, c14, c15], []⟩) (m := false) (base := 0) (Env.ok_cons c11_ok (Env.ok_cons c12_ok (Env.ok_cons c13_ok (Env.ok_cons c14_ok (Env.ok_cons c15_ok Env.ok_nil))))) G_ok mix 400 6 Tryd.func4 (by kernel_rfl) rfl (by kernel_rfl) (by kernel_rfl) rfl ?_
  simp (config := {maxSteps := 3000000}) [Tryd.f4]
  have h1 := wl.1
  have h2 : ∀ x ∈ l, okSlot x := fun x hx => by have := wl.2 x hx; simpa [inR, okI, okSlot, wfTSlot] using this
  exact ⟨h1, fun h => by
    have hh : l.length ≤ 1048576 := by split at h <;> omega
    exact ⟨⟨by omega, hh, h2⟩, by omega, ⟨hh, h2⟩, by omega⟩⟩
theorem law4_pc (D0 : D) (h0 : Sh G 9 27 D0) : PC Tryd.prog 4 [D0] (dB true) [] := by
  obtain ⟨l, rfl, wl⟩ := sh27 (n := 6) h0
  exact law4 l wl
/-- loop.example/g03007/laws.FnExactFormatHits -/
theorem law6 (l : List THit) (wl : wfLTHit l) : PCo Tryd.prog 6 [encLTHit l] (Tab.of []) (dB true) (Tab.of []) := by
  refine pco_of_run [] (E := ⟨[c21, c22, c23, c24, c25], []⟩) (m := false) (base := 0) (Env.ok_cons c21_ok (Env.ok_cons c22_ok (Env.ok_cons c23_ok (Env.ok_cons c24_ok (Env.ok_cons c25_ok Env.ok_nil))))) G_ok mix 400 6 Tryd.func6 (by kernel_rfl) rfl (by kernel_rfl) (by kernel_rfl) rfl ?_
  simp (config := {maxSteps := 3000000}) [Tryd.f6]
  have h1 := wl.1
  have h2 : ∀ x ∈ l, okHit x := fun x hx => by have := wl.2 x hx; simpa [inR, okI, okHit, wfTHit] using this
  exact ⟨h1, fun h => by
    have hh : l.length ≤ 1048576 := by split at h <;> omega
    exact ⟨⟨by omega, hh, h2⟩, by omega, ⟨hh, h2⟩, by omega⟩⟩
theorem law6_pc (D0 : D) (h0 : Sh G 9 41 D0) : PC Tryd.prog 6 [D0] (dB true) [] := by
  obtain ⟨l, rfl, wl⟩ := sh41 (n := 6) h0
  exact law6 l wl

end Go.Proofs.YtdbmiolhbjbpfaaDoor
