/- What a law is given, as typed data. -/
import Derived.Test.YtdbhfkbfajljpaaTA
namespace Go.Proofs.Ytdbhfkbfajljpaa
open Go Go.Eng
set_option linter.unusedSimpArgs false
set_option linter.unusedVariables false
theorem sh2 {n : Nat} {d : D} (h : Sh G (n + 1) 2 d) : ∃ x : Int, d = dI x ∧ inR .i64 x := h
theorem sh3 {n : Nat} {d : D} (h : Sh G (n + 1) 3 d) : ∃ x : Int, d = dI x ∧ inR .i64 x := h
theorem sh4 {n : Nat} {d : D} (h : Sh G (n + 1) 4 d) : ∃ x : Bool, d = dB x ∧ True := by
  obtain ⟨b, rfl⟩ := h
  exact ⟨b, rfl, trivial⟩
theorem sh5 {n : Nat} {d : D} (h : Sh G (n + 1) 5 d) : ∃ x : Int, d = dU x ∧ inR .u8 x := h
theorem sh9 {n : Nat} {d : D} (h : Sh G (n + 1) 9 d) : ∃ x : ByteArray, d = dS x ∧ x.size ≤ maxLen := h
theorem sh12 {n : Nat} {d : D} (h : Sh G (n + 1) 12 d) : ∃ x : Int, d = (fun n => .lit (.int .u64 n)) x ∧ inR .u64 x := h
theorem sh21 {n : Nat} {d : D} (h : Sh G (n + 1) 21 d) : ∃ x : Int, d = (fun n => .lit (.int .i32 n)) x ∧ inR .i32 x := h
theorem sh22 {n : Nat} {d : D} (h : Sh G (n + 2) 22 d) : ∃ x : List Int, d = encLU x ∧ wfLU x := by
  obtain ⟨xs, rfl, hm, hx⟩ := h
  obtain ⟨l, rfl, hl⟩ := Sh_list (Γ := G) (n := n + 1) (e := 5) (fun d hd => sh5 (n := n + 0) hd) hx
  exact ⟨l, rfl, by simpa using hm, hl⟩
theorem sh35 {n : Nat} {d : D} (h : Sh G (n + 2) 35 d) : ∃ x : List Int, d = encLI x ∧ wfLI x := by
  obtain ⟨xs, rfl, hm, hx⟩ := h
  obtain ⟨l, rfl, hl⟩ := Sh_list (Γ := G) (n := n + 1) (e := 3) (fun d hd => sh3 (n := n + 0) hd) hx
  exact ⟨l, rfl, by simpa using hm, hl⟩
theorem sh53 {n : Nat} {d : D} (h : Sh G (n + 2) 53 d) : ∃ x : TEntry, d = encTEntry x ∧ wfTEntry x := by
  obtain ⟨cs, rfl, _, d0, r0, h0, _, rfl, _, d1, r1, h1, _, rfl, _, d2, r2, h2, _, rfl, _, d3, r3, h3, _, rfl, rfl⟩ := h
  obtain ⟨x0, rfl, w0⟩ := sh3 (n := n + 0) h0
  obtain ⟨x1, rfl, w1⟩ := sh3 (n := n + 0) h1
  obtain ⟨x2, rfl, w2⟩ := sh3 (n := n + 0) h2
  obtain ⟨x3, rfl, w3⟩ := sh3 (n := n + 0) h3
  exact ⟨⟨x0, x1, x2, x3⟩, rfl, w0, w1, w2, w3⟩
theorem sh41 {n : Nat} {d : D} (h : Sh G (n + 3) 41 d) : ∃ x : List TEntry, d = encLTEntry x ∧ wfLTEntry x := by
  obtain ⟨xs, rfl, hm, hx⟩ := h
  obtain ⟨l, rfl, hl⟩ := Sh_list (Γ := G) (n := n + 2) (e := 53) (fun d hd => sh53 (n := n + 0) hd) hx
  exact ⟨l, rfl, by simpa using hm, hl⟩
theorem sh71 {n : Nat} {d : D} (h : Sh G (n + 2) 71 d) : ∃ x : TShare, d = encTShare x ∧ wfTShare x := by
  obtain ⟨cs, rfl, _, d0, r0, h0, _, rfl, _, d1, r1, h1, _, rfl, rfl⟩ := h
  obtain ⟨x0, rfl, w0⟩ := sh3 (n := n + 0) h0
  obtain ⟨x1, rfl, w1⟩ := sh3 (n := n + 0) h1
  exact ⟨⟨x0, x1⟩, rfl, w0, w1⟩
theorem sh42 {n : Nat} {d : D} (h : Sh G (n + 3) 42 d) : ∃ x : List TShare, d = encLTShare x ∧ wfLTShare x := by
  obtain ⟨xs, rfl, hm, hx⟩ := h
  obtain ⟨l, rfl, hl⟩ := Sh_list (Γ := G) (n := n + 2) (e := 71) (fun d hd => sh71 (n := n + 0) hd) hx
  exact ⟨l, rfl, by simpa using hm, hl⟩
theorem sh52 {n : Nat} {d : D} (h : Sh G (n + 2) 52 d) : ∃ x : TEntry, d = encTEntry x ∧ wfTEntry x := by
  obtain ⟨cs, rfl, _, d0, r0, h0, _, rfl, _, d1, r1, h1, _, rfl, _, d2, r2, h2, _, rfl, _, d3, r3, h3, _, rfl, rfl⟩ := h
  obtain ⟨x0, rfl, w0⟩ := sh3 (n := n + 0) h0
  obtain ⟨x1, rfl, w1⟩ := sh3 (n := n + 0) h1
  obtain ⟨x2, rfl, w2⟩ := sh3 (n := n + 0) h2
  obtain ⟨x3, rfl, w3⟩ := sh3 (n := n + 0) h3
  exact ⟨⟨x0, x1, x2, x3⟩, rfl, w0, w1, w2, w3⟩
theorem sh70 {n : Nat} {d : D} (h : Sh G (n + 2) 70 d) : ∃ x : TShare, d = encTShare x ∧ wfTShare x := by
  obtain ⟨cs, rfl, _, d0, r0, h0, _, rfl, _, d1, r1, h1, _, rfl, rfl⟩ := h
  obtain ⟨x0, rfl, w0⟩ := sh3 (n := n + 0) h0
  obtain ⟨x1, rfl, w1⟩ := sh3 (n := n + 0) h1
  exact ⟨⟨x0, x1⟩, rfl, w0, w1⟩
theorem sh79 {n : Nat} {d : D} (h : Sh G (n + 3) 79 d) : ∃ x : TL1Cur, d = encTL1Cur x ∧ wfTL1Cur x := by
  obtain ⟨cs, rfl, _, d0, r0, h0, _, rfl, _, d1, r1, h1, _, rfl, _, d2, r2, h2, _, rfl, rfl⟩ := h
  obtain ⟨x0, rfl, w0⟩ := sh22 (n := n + 0) h0
  obtain ⟨x1, rfl, w1⟩ := sh3 (n := n + 1) h1
  obtain ⟨x2, rfl, w2⟩ := sh3 (n := n + 1) h2
  exact ⟨⟨x0, x1, x2⟩, rfl, w0, w1, w2⟩
theorem sh80 {n : Nat} {d : D} (h : Sh G (n + 3) 80 d) : ∃ x : TL1Cur, d = encTL1Cur x ∧ wfTL1Cur x := by
  obtain ⟨cs, rfl, _, d0, r0, h0, _, rfl, _, d1, r1, h1, _, rfl, _, d2, r2, h2, _, rfl, rfl⟩ := h
  obtain ⟨x0, rfl, w0⟩ := sh22 (n := n + 0) h0
  obtain ⟨x1, rfl, w1⟩ := sh3 (n := n + 1) h1
  obtain ⟨x2, rfl, w2⟩ := sh3 (n := n + 1) h2
  exact ⟨⟨x0, x1, x2⟩, rfl, w0, w1, w2⟩
theorem sh81 {n : Nat} {d : D} (h : Sh G (n + 1) 81 d) : ∃ x : Int, d = (fun n => .lit (.int .u64 n)) x ∧ inR .u64 x := h
theorem sh89 {n : Nat} {d : D} (h : Sh G (n + 3) 89 d) : ∃ x : List (List Int), d = encLLI x ∧ wfLLI x := by
  obtain ⟨xs, rfl, hm, hx⟩ := h
  obtain ⟨l, rfl, hl⟩ := Sh_list (Γ := G) (n := n + 2) (e := 35) (fun d hd => sh35 (n := n + 0) hd) hx
  exact ⟨l, rfl, by simpa using hm, hl⟩
theorem sh94 {n : Nat} {d : D} (h : Sh G (n + 1) 94 d) : ∃ x : Int, d = dI x ∧ inR .i64 x := h
theorem sh102 {n : Nat} {d : D} (h : Sh G (n + 1) 102 d) : ∃ x : Int, d = (fun n => .lit (.int .u32 n)) x ∧ inR .u32 x := h
theorem sh104 {n : Nat} {d : D} (h : Sh G (n + 1) 104 d) : ∃ x : Int, d = (fun n => .lit (.int .u64 n)) x ∧ inR .u64 x := h
theorem sh105 {n : Nat} {d : D} (h : Sh G (n + 1) 105 d) : ∃ x : Int, d = (fun n => .lit (.int .u64 n)) x ∧ inR .u64 x := h
end Go.Proofs.Ytdbhfkbfajljpaa
