/- What a law is given, as typed data. -/
import Derived.Test.YtdbhfkbfajljpaaDoorTA
namespace Go.Proofs.YtdbhfkbfajljpaaDoor
open Go Go.Eng
set_option linter.unusedSimpArgs false
set_option linter.unusedVariables false
theorem sh2 {n : Nat} {d : D} (h : Sh G (n + 1) 2 d) : ∃ x : Int, d = dI x ∧ inR .i64 x := h
theorem sh3 {n : Nat} {d : D} (h : Sh G (n + 1) 3 d) : ∃ x : Int, d = dI x ∧ inR .i64 x := h
theorem sh4 {n : Nat} {d : D} (h : Sh G (n + 1) 4 d) : ∃ x : Bool, d = dB x ∧ True := by
  obtain ⟨b, rfl⟩ := h
  exact ⟨b, rfl, trivial⟩
theorem sh5 {n : Nat} {d : D} (h : Sh G (n + 1) 5 d) : ∃ x : Int, d = dU x ∧ inR .u8 x := h
theorem sh9 {n : Nat} {d : D} (h : Sh G (n + 1) 9 d) : ∃ x : ByteArray, d = dS x ∧ x.size ≤ maxLen := h
theorem sh12 {n : Nat} {d : D} (h : Sh G (n + 1) 12 d) : ∃ x : Int, d = (fun n => .lit (.int .u64 n)) x ∧ inR .u64 x := h
theorem sh21 {n : Nat} {d : D} (h : Sh G (n + 1) 21 d) : ∃ x : Int, d = (fun n => .lit (.int .i32 n)) x ∧ inR .i32 x := h
theorem sh22 {n : Nat} {d : D} (h : Sh G (n + 2) 22 d) : ∃ x : List Int, d = encLU x ∧ wfLU x := by
  obtain ⟨xs, rfl, hm, hx⟩ := h
  obtain ⟨l, rfl, hl⟩ := Sh_list (Γ := G) (n := n + 1) (e := 5) (fun d hd => sh5 (n := n + 0) hd) hx
  exact ⟨l, rfl, by simpa using hm, hl⟩
theorem sh24 {n : Nat} {d : D} (h : Sh G (n + 2) 24 d) : ∃ x : List Bool, d = encLB x ∧ wfLB x := by
  obtain ⟨xs, rfl, hm, hx⟩ := h
  obtain ⟨l, rfl, hl⟩ := Sh_list (Γ := G) (n := n + 1) (e := 4) (fun d hd => sh4 (n := n + 0) hd) hx
  exact ⟨l, rfl, by simpa using hm, trivial⟩
theorem sh33 {n : Nat} {d : D} (h : Sh G (n + 2) 33 d) : ∃ x : TThing, d = encTThing x ∧ wfTThing x := by
  obtain ⟨cs, rfl, _, d0, r0, h0, _, rfl, _, d1, r1, h1, _, rfl, _, d2, r2, h2, _, rfl, _, d3, r3, h3, _, rfl, _, d4, r4, h4, _, rfl, rfl⟩ := h
  obtain ⟨x0, rfl, w0⟩ := sh3 (n := n + 0) h0
  obtain ⟨x1, rfl, w1⟩ := sh3 (n := n + 0) h1
  obtain ⟨x2, rfl, w2⟩ := sh3 (n := n + 0) h2
  obtain ⟨x3, rfl, w3⟩ := sh3 (n := n + 0) h3
  obtain ⟨x4, rfl, w4⟩ := sh3 (n := n + 0) h4
  exact ⟨⟨x0, x1, x2, x3, x4⟩, rfl, w0, w1, w2, w3, w4⟩
theorem sh34 {n : Nat} {d : D} (h : Sh G (n + 2) 34 d) : ∃ x : TThing, d = encTThing x ∧ wfTThing x := by
  obtain ⟨cs, rfl, _, d0, r0, h0, _, rfl, _, d1, r1, h1, _, rfl, _, d2, r2, h2, _, rfl, _, d3, r3, h3, _, rfl, _, d4, r4, h4, _, rfl, rfl⟩ := h
  obtain ⟨x0, rfl, w0⟩ := sh3 (n := n + 0) h0
  obtain ⟨x1, rfl, w1⟩ := sh3 (n := n + 0) h1
  obtain ⟨x2, rfl, w2⟩ := sh3 (n := n + 0) h2
  obtain ⟨x3, rfl, w3⟩ := sh3 (n := n + 0) h3
  obtain ⟨x4, rfl, w4⟩ := sh3 (n := n + 0) h4
  exact ⟨⟨x0, x1, x2, x3, x4⟩, rfl, w0, w1, w2, w3, w4⟩
theorem sh35 {n : Nat} {d : D} (h : Sh G (n + 3) 35 d) : ∃ x : TFind, d = encTFind x ∧ wfTFind x := by
  obtain ⟨cs, rfl, _, d0, r0, h0, _, rfl, _, d1, r1, h1, _, rfl, _, d2, r2, h2, _, rfl, _, d3, r3, h3, _, rfl, rfl⟩ := h
  obtain ⟨x0, rfl, w0⟩ := sh34 (n := n + 0) h0
  obtain ⟨x1, rfl, w1⟩ := sh3 (n := n + 1) h1
  obtain ⟨x2, rfl, w2⟩ := sh3 (n := n + 1) h2
  obtain ⟨x3, rfl, w3⟩ := sh3 (n := n + 1) h3
  exact ⟨⟨x0, x1, x2, x3⟩, rfl, w0, w1, w2, w3⟩
theorem sh36 {n : Nat} {d : D} (h : Sh G (n + 3) 36 d) : ∃ x : TFind, d = encTFind x ∧ wfTFind x := by
  obtain ⟨cs, rfl, _, d0, r0, h0, _, rfl, _, d1, r1, h1, _, rfl, _, d2, r2, h2, _, rfl, _, d3, r3, h3, _, rfl, rfl⟩ := h
  obtain ⟨x0, rfl, w0⟩ := sh34 (n := n + 0) h0
  obtain ⟨x1, rfl, w1⟩ := sh3 (n := n + 1) h1
  obtain ⟨x2, rfl, w2⟩ := sh3 (n := n + 1) h2
  obtain ⟨x3, rfl, w3⟩ := sh3 (n := n + 1) h3
  exact ⟨⟨x0, x1, x2, x3⟩, rfl, w0, w1, w2, w3⟩
theorem sh44 {n : Nat} {d : D} (h : Sh G (n + 2) 44 d) : ∃ x : List Int, d = encLI x ∧ wfLI x := by
  obtain ⟨xs, rfl, hm, hx⟩ := h
  obtain ⟨l, rfl, hl⟩ := Sh_list (Γ := G) (n := n + 1) (e := 3) (fun d hd => sh3 (n := n + 0) hd) hx
  exact ⟨l, rfl, by simpa using hm, hl⟩
theorem sh48 {n : Nat} {d : D} (h : Sh G (n + 1) 48 d) : ∃ x : Int, d = dU x ∧ inR .u8 x := h
theorem sh56 {n : Nat} {d : D} (h : Sh G (n + 3) 56 d) : ∃ x : TL1Cur, d = encTL1Cur x ∧ wfTL1Cur x := by
  obtain ⟨cs, rfl, _, d0, r0, h0, _, rfl, _, d1, r1, h1, _, rfl, _, d2, r2, h2, _, rfl, rfl⟩ := h
  obtain ⟨x0, rfl, w0⟩ := sh22 (n := n + 0) h0
  obtain ⟨x1, rfl, w1⟩ := sh3 (n := n + 1) h1
  obtain ⟨x2, rfl, w2⟩ := sh3 (n := n + 1) h2
  exact ⟨⟨x0, x1, x2⟩, rfl, w0, w1, w2⟩
theorem sh57 {n : Nat} {d : D} (h : Sh G (n + 3) 57 d) : ∃ x : TL1Cur, d = encTL1Cur x ∧ wfTL1Cur x := by
  obtain ⟨cs, rfl, _, d0, r0, h0, _, rfl, _, d1, r1, h1, _, rfl, _, d2, r2, h2, _, rfl, rfl⟩ := h
  obtain ⟨x0, rfl, w0⟩ := sh22 (n := n + 0) h0
  obtain ⟨x1, rfl, w1⟩ := sh3 (n := n + 1) h1
  obtain ⟨x2, rfl, w2⟩ := sh3 (n := n + 1) h2
  exact ⟨⟨x0, x1, x2⟩, rfl, w0, w1, w2⟩
theorem sh59 {n : Nat} {d : D} (h : Sh G (n + 4) 59 d) : ∃ x : List TFind, d = encLTFind x ∧ wfLTFind x := by
  obtain ⟨xs, rfl, hm, hx⟩ := h
  obtain ⟨l, rfl, hl⟩ := Sh_list (Γ := G) (n := n + 3) (e := 36) (fun d hd => sh36 (n := n + 0) hd) hx
  exact ⟨l, rfl, by simpa using hm, hl⟩
theorem sh67 {n : Nat} {d : D} (h : Sh G (n + 1) 67 d) : ∃ x : Int, d = (fun n => .lit (.int .u64 n)) x ∧ inR .u64 x := h
theorem sh81 {n : Nat} {d : D} (h : Sh G (n + 1) 81 d) : ∃ x : Int, d = (fun n => .lit (.int .u32 n)) x ∧ inR .u32 x := h
end Go.Proofs.YtdbhfkbfajljpaaDoor
