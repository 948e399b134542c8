/- What a law is given, as typed data. -/
import Derived.Test.YtnghehfdclhfdaaTA
namespace Go.Proofs.Ytnghehfdclhfdaa
open Go Go.Eng
set_option linter.unusedSimpArgs false
set_option linter.unusedVariables false
theorem sh2 {n : Nat} {d : D} (h : Sh G (n + 1) 2 d) : ∃ x : Int, d = dI x ∧ inR .i64 x := h
theorem sh3 {n : Nat} {d : D} (h : Sh G (n + 1) 3 d) : ∃ x : Int, d = dI x ∧ inR .i64 x := h
theorem sh4 {n : Nat} {d : D} (h : Sh G (n + 1) 4 d) : ∃ x : Bool, d = dB x ∧ True := by
  obtain ⟨b, rfl⟩ := h
  exact ⟨b, rfl, trivial⟩
theorem sh5 {n : Nat} {d : D} (h : Sh G (n + 1) 5 d) : ∃ x : Int, d = dU x ∧ inR .u8 x := h
theorem sh9 {n : Nat} {d : D} (h : Sh G (n + 1) 9 d) : ∃ x : ByteArray, d = dS x ∧ x.size ≤ maxLen := h
theorem sh12 {n : Nat} {d : D} (h : Sh G (n + 1) 12 d) : ∃ x : Int, d = (fun n => .lit (.int .u64 n)) x ∧ inR .u64 x := h
theorem sh21 {n : Nat} {d : D} (h : Sh G (n + 1) 21 d) : ∃ x : Int, d = (fun n => .lit (.int .i32 n)) x ∧ inR .i32 x := h
theorem sh22 {n : Nat} {d : D} (h : Sh G (n + 2) 22 d) : ∃ x : TThing, d = encTThing x ∧ wfTThing x := by
  obtain ⟨cs, rfl, _, d0, r0, h0, _, rfl, _, d1, r1, h1, _, rfl, _, d2, r2, h2, _, rfl, _, d3, r3, h3, _, rfl, _, d4, r4, h4, _, rfl, rfl⟩ := h
  obtain ⟨x0, rfl, w0⟩ := sh3 (n := n + 0) h0
  obtain ⟨x1, rfl, w1⟩ := sh3 (n := n + 0) h1
  obtain ⟨x2, rfl, w2⟩ := sh3 (n := n + 0) h2
  obtain ⟨x3, rfl, w3⟩ := sh3 (n := n + 0) h3
  obtain ⟨x4, rfl, w4⟩ := sh3 (n := n + 0) h4
  exact ⟨⟨x0, x1, x2, x3, x4⟩, rfl, w0, w1, w2, w3, w4⟩
theorem sh23 {n : Nat} {d : D} (h : Sh G (n + 2) 23 d) : ∃ x : TThing, d = encTThing x ∧ wfTThing x := by
  obtain ⟨cs, rfl, _, d0, r0, h0, _, rfl, _, d1, r1, h1, _, rfl, _, d2, r2, h2, _, rfl, _, d3, r3, h3, _, rfl, _, d4, r4, h4, _, rfl, rfl⟩ := h
  obtain ⟨x0, rfl, w0⟩ := sh3 (n := n + 0) h0
  obtain ⟨x1, rfl, w1⟩ := sh3 (n := n + 0) h1
  obtain ⟨x2, rfl, w2⟩ := sh3 (n := n + 0) h2
  obtain ⟨x3, rfl, w3⟩ := sh3 (n := n + 0) h3
  obtain ⟨x4, rfl, w4⟩ := sh3 (n := n + 0) h4
  exact ⟨⟨x0, x1, x2, x3, x4⟩, rfl, w0, w1, w2, w3, w4⟩
theorem sh24 {n : Nat} {d : D} (h : Sh G (n + 3) 24 d) : ∃ x : TFind, d = encTFind x ∧ wfTFind x := by
  obtain ⟨cs, rfl, _, d0, r0, h0, _, rfl, _, d1, r1, h1, _, rfl, _, d2, r2, h2, _, rfl, _, d3, r3, h3, _, rfl, rfl⟩ := h
  obtain ⟨x0, rfl, w0⟩ := sh23 (n := n + 0) h0
  obtain ⟨x1, rfl, w1⟩ := sh3 (n := n + 1) h1
  obtain ⟨x2, rfl, w2⟩ := sh3 (n := n + 1) h2
  obtain ⟨x3, rfl, w3⟩ := sh3 (n := n + 1) h3
  exact ⟨⟨x0, x1, x2, x3⟩, rfl, w0, w1, w2, w3⟩
theorem sh25 {n : Nat} {d : D} (h : Sh G (n + 3) 25 d) : ∃ x : TFind, d = encTFind x ∧ wfTFind x := by
  obtain ⟨cs, rfl, _, d0, r0, h0, _, rfl, _, d1, r1, h1, _, rfl, _, d2, r2, h2, _, rfl, _, d3, r3, h3, _, rfl, rfl⟩ := h
  obtain ⟨x0, rfl, w0⟩ := sh23 (n := n + 0) h0
  obtain ⟨x1, rfl, w1⟩ := sh3 (n := n + 1) h1
  obtain ⟨x2, rfl, w2⟩ := sh3 (n := n + 1) h2
  obtain ⟨x3, rfl, w3⟩ := sh3 (n := n + 1) h3
  exact ⟨⟨x0, x1, x2, x3⟩, rfl, w0, w1, w2, w3⟩
theorem sh28 {n : Nat} {d : D} (h : Sh G (n + 2) 28 d) : ∃ x : List Int, d = encLI x ∧ wfLI x := by
  obtain ⟨xs, rfl, hm, hx⟩ := h
  obtain ⟨l, rfl, hl⟩ := Sh_list (Γ := G) (n := n + 1) (e := 3) (fun d hd => sh3 (n := n + 0) hd) hx
  exact ⟨l, rfl, by simpa using hm, hl⟩
theorem sh42 {n : Nat} {d : D} (h : Sh G (n + 2) 42 d) : ∃ x : TSpan, d = encTSpan x ∧ wfTSpan x := by
  obtain ⟨cs, rfl, _, d0, r0, h0, _, rfl, _, d1, r1, h1, _, rfl, rfl⟩ := h
  obtain ⟨x0, rfl, w0⟩ := sh3 (n := n + 0) h0
  obtain ⟨x1, rfl, w1⟩ := sh3 (n := n + 0) h1
  exact ⟨⟨x0, x1⟩, rfl, w0, w1⟩
theorem sh44 {n : Nat} {d : D} (h : Sh G (n + 3) 44 d) : ∃ x : TReport, d = encTReport x ∧ wfTReport x := by
  obtain ⟨cs, rfl, _, d0, r0, h0, _, rfl, _, d1, r1, h1, _, rfl, _, d2, r2, h2, _, rfl, _, d3, r3, h3, _, rfl, _, d4, r4, h4, _, rfl, _, d5, r5, h5, _, rfl, _, d6, r6, h6, _, rfl, rfl⟩ := h
  obtain ⟨x0, rfl, w0⟩ := sh3 (n := n + 1) h0
  obtain ⟨x1, rfl, w1⟩ := sh3 (n := n + 1) h1
  obtain ⟨x2, rfl, w2⟩ := sh28 (n := n + 0) h2
  obtain ⟨x3, rfl, w3⟩ := sh3 (n := n + 1) h3
  obtain ⟨x4, rfl, w4⟩ := sh3 (n := n + 1) h4
  obtain ⟨x5, rfl, w5⟩ := sh28 (n := n + 0) h5
  obtain ⟨x6, rfl, w6⟩ := sh42 (n := n + 0) h6
  exact ⟨⟨x0, x1, x2, x3, x4, x5, x6⟩, rfl, w0, w1, w2, w3, w4, w5, w6⟩
theorem sh26 {n : Nat} {d : D} (h : Sh G (n + 4) 26 d) : ∃ x : List TReport, d = encLTReport x ∧ wfLTReport x := by
  obtain ⟨xs, rfl, hm, hx⟩ := h
  obtain ⟨l, rfl, hl⟩ := Sh_list (Γ := G) (n := n + 3) (e := 44) (fun d hd => sh44 (n := n + 0) hd) hx
  exact ⟨l, rfl, by simpa using hm, hl⟩
theorem sh30 {n : Nat} {d : D} (h : Sh G (n + 2) 30 d) : ∃ x : TThing, d = encTThing x ∧ wfTThing x := by
  obtain ⟨cs, rfl, _, d0, r0, h0, _, rfl, _, d1, r1, h1, _, rfl, _, d2, r2, h2, _, rfl, _, d3, r3, h3, _, rfl, _, d4, r4, h4, _, rfl, rfl⟩ := h
  obtain ⟨x0, rfl, w0⟩ := sh3 (n := n + 0) h0
  obtain ⟨x1, rfl, w1⟩ := sh3 (n := n + 0) h1
  obtain ⟨x2, rfl, w2⟩ := sh3 (n := n + 0) h2
  obtain ⟨x3, rfl, w3⟩ := sh3 (n := n + 0) h3
  obtain ⟨x4, rfl, w4⟩ := sh3 (n := n + 0) h4
  exact ⟨⟨x0, x1, x2, x3, x4⟩, rfl, w0, w1, w2, w3, w4⟩
theorem sh31 {n : Nat} {d : D} (h : Sh G (n + 3) 31 d) : ∃ x : TFind, d = encTFind x ∧ wfTFind x := by
  obtain ⟨cs, rfl, _, d0, r0, h0, _, rfl, _, d1, r1, h1, _, rfl, _, d2, r2, h2, _, rfl, _, d3, r3, h3, _, rfl, rfl⟩ := h
  obtain ⟨x0, rfl, w0⟩ := sh30 (n := n + 0) h0
  obtain ⟨x1, rfl, w1⟩ := sh3 (n := n + 1) h1
  obtain ⟨x2, rfl, w2⟩ := sh3 (n := n + 1) h2
  obtain ⟨x3, rfl, w3⟩ := sh3 (n := n + 1) h3
  exact ⟨⟨x0, x1, x2, x3⟩, rfl, w0, w1, w2, w3⟩
theorem sh32 {n : Nat} {d : D} (h : Sh G (n + 3) 32 d) : ∃ x : TFind, d = encTFind x ∧ wfTFind x := by
  obtain ⟨cs, rfl, _, d0, r0, h0, _, rfl, _, d1, r1, h1, _, rfl, _, d2, r2, h2, _, rfl, _, d3, r3, h3, _, rfl, rfl⟩ := h
  obtain ⟨x0, rfl, w0⟩ := sh30 (n := n + 0) h0
  obtain ⟨x1, rfl, w1⟩ := sh3 (n := n + 1) h1
  obtain ⟨x2, rfl, w2⟩ := sh3 (n := n + 1) h2
  obtain ⟨x3, rfl, w3⟩ := sh3 (n := n + 1) h3
  exact ⟨⟨x0, x1, x2, x3⟩, rfl, w0, w1, w2, w3⟩
theorem sh49 {n : Nat} {d : D} (h : Sh G (n + 2) 49 d) : ∃ x : TSpan, d = encTSpan x ∧ wfTSpan x := by
  obtain ⟨cs, rfl, _, d0, r0, h0, _, rfl, _, d1, r1, h1, _, rfl, rfl⟩ := h
  obtain ⟨x0, rfl, w0⟩ := sh3 (n := n + 0) h0
  obtain ⟨x1, rfl, w1⟩ := sh3 (n := n + 0) h1
  exact ⟨⟨x0, x1⟩, rfl, w0, w1⟩
theorem sh51 {n : Nat} {d : D} (h : Sh G (n + 3) 51 d) : ∃ x : TReport, d = encTReport x ∧ wfTReport x := by
  obtain ⟨cs, rfl, _, d0, r0, h0, _, rfl, _, d1, r1, h1, _, rfl, _, d2, r2, h2, _, rfl, _, d3, r3, h3, _, rfl, _, d4, r4, h4, _, rfl, _, d5, r5, h5, _, rfl, _, d6, r6, h6, _, rfl, rfl⟩ := h
  obtain ⟨x0, rfl, w0⟩ := sh3 (n := n + 1) h0
  obtain ⟨x1, rfl, w1⟩ := sh3 (n := n + 1) h1
  obtain ⟨x2, rfl, w2⟩ := sh28 (n := n + 0) h2
  obtain ⟨x3, rfl, w3⟩ := sh3 (n := n + 1) h3
  obtain ⟨x4, rfl, w4⟩ := sh3 (n := n + 1) h4
  obtain ⟨x5, rfl, w5⟩ := sh28 (n := n + 0) h5
  obtain ⟨x6, rfl, w6⟩ := sh49 (n := n + 0) h6
  exact ⟨⟨x0, x1, x2, x3, x4, x5, x6⟩, rfl, w0, w1, w2, w3, w4, w5, w6⟩
theorem sh34 {n : Nat} {d : D} (h : Sh G (n + 4) 34 d) : ∃ x : List TReport, d = encLTReport x ∧ wfLTReport x := by
  obtain ⟨xs, rfl, hm, hx⟩ := h
  obtain ⟨l, rfl, hl⟩ := Sh_list (Γ := G) (n := n + 3) (e := 51) (fun d hd => sh51 (n := n + 0) hd) hx
  exact ⟨l, rfl, by simpa using hm, hl⟩
theorem sh41 {n : Nat} {d : D} (h : Sh G (n + 2) 41 d) : ∃ x : TSpan, d = encTSpan x ∧ wfTSpan x := by
  obtain ⟨cs, rfl, _, d0, r0, h0, _, rfl, _, d1, r1, h1, _, rfl, rfl⟩ := h
  obtain ⟨x0, rfl, w0⟩ := sh3 (n := n + 0) h0
  obtain ⟨x1, rfl, w1⟩ := sh3 (n := n + 0) h1
  exact ⟨⟨x0, x1⟩, rfl, w0, w1⟩
theorem sh43 {n : Nat} {d : D} (h : Sh G (n + 3) 43 d) : ∃ x : TReport, d = encTReport x ∧ wfTReport x := by
  obtain ⟨cs, rfl, _, d0, r0, h0, _, rfl, _, d1, r1, h1, _, rfl, _, d2, r2, h2, _, rfl, _, d3, r3, h3, _, rfl, _, d4, r4, h4, _, rfl, _, d5, r5, h5, _, rfl, _, d6, r6, h6, _, rfl, rfl⟩ := h
  obtain ⟨x0, rfl, w0⟩ := sh3 (n := n + 1) h0
  obtain ⟨x1, rfl, w1⟩ := sh3 (n := n + 1) h1
  obtain ⟨x2, rfl, w2⟩ := sh28 (n := n + 0) h2
  obtain ⟨x3, rfl, w3⟩ := sh3 (n := n + 1) h3
  obtain ⟨x4, rfl, w4⟩ := sh3 (n := n + 1) h4
  obtain ⟨x5, rfl, w5⟩ := sh28 (n := n + 0) h5
  obtain ⟨x6, rfl, w6⟩ := sh42 (n := n + 0) h6
  exact ⟨⟨x0, x1, x2, x3, x4, x5, x6⟩, rfl, w0, w1, w2, w3, w4, w5, w6⟩
theorem sh45 {n : Nat} {d : D} (h : Sh G (n + 3) 45 d) : ∃ x : List (List Int), d = encLLI x ∧ wfLLI x := by
  obtain ⟨xs, rfl, hm, hx⟩ := h
  obtain ⟨l, rfl, hl⟩ := Sh_list (Γ := G) (n := n + 2) (e := 28) (fun d hd => sh28 (n := n + 0) hd) hx
  exact ⟨l, rfl, by simpa using hm, hl⟩
theorem sh50 {n : Nat} {d : D} (h : Sh G (n + 3) 50 d) : ∃ x : TReport, d = encTReport x ∧ wfTReport x := by
  obtain ⟨cs, rfl, _, d0, r0, h0, _, rfl, _, d1, r1, h1, _, rfl, _, d2, r2, h2, _, rfl, _, d3, r3, h3, _, rfl, _, d4, r4, h4, _, rfl, _, d5, r5, h5, _, rfl, _, d6, r6, h6, _, rfl, rfl⟩ := h
  obtain ⟨x0, rfl, w0⟩ := sh3 (n := n + 1) h0
  obtain ⟨x1, rfl, w1⟩ := sh3 (n := n + 1) h1
  obtain ⟨x2, rfl, w2⟩ := sh28 (n := n + 0) h2
  obtain ⟨x3, rfl, w3⟩ := sh3 (n := n + 1) h3
  obtain ⟨x4, rfl, w4⟩ := sh3 (n := n + 1) h4
  obtain ⟨x5, rfl, w5⟩ := sh28 (n := n + 0) h5
  obtain ⟨x6, rfl, w6⟩ := sh49 (n := n + 0) h6
  exact ⟨⟨x0, x1, x2, x3, x4, x5, x6⟩, rfl, w0, w1, w2, w3, w4, w5, w6⟩
theorem sh100 {n : Nat} {d : D} (h : Sh G (n + 2) 100 d) : ∃ x : THand, d = encTHand x ∧ wfTHand x := by
  obtain ⟨cs, rfl, _, d0, r0, h0, _, rfl, _, d1, r1, h1, _, rfl, _, d2, r2, h2, _, rfl, _, d3, r3, h3, _, rfl, _, d4, r4, h4, _, rfl, rfl⟩ := h
  obtain ⟨x0, rfl, w0⟩ := sh3 (n := n + 0) h0
  obtain ⟨x1, rfl, w1⟩ := sh3 (n := n + 0) h1
  obtain ⟨x2, rfl, w2⟩ := sh3 (n := n + 0) h2
  obtain ⟨x3, rfl, w3⟩ := sh3 (n := n + 0) h3
  obtain ⟨x4, rfl, w4⟩ := sh3 (n := n + 0) h4
  exact ⟨⟨x0, x1, x2, x3, x4⟩, rfl, w0, w1, w2, w3, w4⟩
theorem sh58 {n : Nat} {d : D} (h : Sh G (n + 3) 58 d) : ∃ x : List THand, d = encLTHand x ∧ wfLTHand x := by
  obtain ⟨xs, rfl, hm, hx⟩ := h
  obtain ⟨l, rfl, hl⟩ := Sh_list (Γ := G) (n := n + 2) (e := 100) (fun d hd => sh100 (n := n + 0) hd) hx
  exact ⟨l, rfl, by simpa using hm, hl⟩
theorem sh93 {n : Nat} {d : D} (h : Sh G (n + 3) 93 d) : ∃ x : TParcel, d = encTParcel x ∧ wfTParcel x := by
  obtain ⟨cs, rfl, _, d0, r0, h0, _, rfl, _, d1, r1, h1, _, rfl, _, d2, r2, h2, _, rfl, _, d3, r3, h3, _, rfl, rfl⟩ := h
  obtain ⟨x0, rfl, w0⟩ := sh3 (n := n + 1) h0
  obtain ⟨x1, rfl, w1⟩ := sh3 (n := n + 1) h1
  obtain ⟨x2, rfl, w2⟩ := sh28 (n := n + 0) h2
  obtain ⟨x3, rfl, w3⟩ := sh3 (n := n + 1) h3
  exact ⟨⟨x0, x1, x2, x3⟩, rfl, w0, w1, w2, w3⟩
theorem sh59 {n : Nat} {d : D} (h : Sh G (n + 4) 59 d) : ∃ x : List TParcel, d = encLTParcel x ∧ wfLTParcel x := by
  obtain ⟨xs, rfl, hm, hx⟩ := h
  obtain ⟨l, rfl, hl⟩ := Sh_list (Γ := G) (n := n + 3) (e := 93) (fun d hd => sh93 (n := n + 0) hd) hx
  exact ⟨l, rfl, by simpa using hm, hl⟩
theorem sh98 {n : Nat} {d : D} (h : Sh G (n + 2) 98 d) : ∃ x : THand, d = encTHand x ∧ wfTHand x := by
  obtain ⟨cs, rfl, _, d0, r0, h0, _, rfl, _, d1, r1, h1, _, rfl, _, d2, r2, h2, _, rfl, _, d3, r3, h3, _, rfl, _, d4, r4, h4, _, rfl, rfl⟩ := h
  obtain ⟨x0, rfl, w0⟩ := sh3 (n := n + 0) h0
  obtain ⟨x1, rfl, w1⟩ := sh3 (n := n + 0) h1
  obtain ⟨x2, rfl, w2⟩ := sh3 (n := n + 0) h2
  obtain ⟨x3, rfl, w3⟩ := sh3 (n := n + 0) h3
  obtain ⟨x4, rfl, w4⟩ := sh3 (n := n + 0) h4
  exact ⟨⟨x0, x1, x2, x3, x4⟩, rfl, w0, w1, w2, w3, w4⟩
theorem sh62 {n : Nat} {d : D} (h : Sh G (n + 3) 62 d) : ∃ x : List THand, d = encLTHand x ∧ wfLTHand x := by
  obtain ⟨xs, rfl, hm, hx⟩ := h
  obtain ⟨l, rfl, hl⟩ := Sh_list (Γ := G) (n := n + 2) (e := 98) (fun d hd => sh98 (n := n + 0) hd) hx
  exact ⟨l, rfl, by simpa using hm, hl⟩
theorem sh96 {n : Nat} {d : D} (h : Sh G (n + 3) 96 d) : ∃ x : TParcel, d = encTParcel x ∧ wfTParcel x := by
  obtain ⟨cs, rfl, _, d0, r0, h0, _, rfl, _, d1, r1, h1, _, rfl, _, d2, r2, h2, _, rfl, _, d3, r3, h3, _, rfl, rfl⟩ := h
  obtain ⟨x0, rfl, w0⟩ := sh3 (n := n + 1) h0
  obtain ⟨x1, rfl, w1⟩ := sh3 (n := n + 1) h1
  obtain ⟨x2, rfl, w2⟩ := sh28 (n := n + 0) h2
  obtain ⟨x3, rfl, w3⟩ := sh3 (n := n + 1) h3
  exact ⟨⟨x0, x1, x2, x3⟩, rfl, w0, w1, w2, w3⟩
theorem sh66 {n : Nat} {d : D} (h : Sh G (n + 4) 66 d) : ∃ x : List TParcel, d = encLTParcel x ∧ wfLTParcel x := by
  obtain ⟨xs, rfl, hm, hx⟩ := h
  obtain ⟨l, rfl, hl⟩ := Sh_list (Γ := G) (n := n + 3) (e := 96) (fun d hd => sh96 (n := n + 0) hd) hx
  exact ⟨l, rfl, by simpa using hm, hl⟩
theorem sh92 {n : Nat} {d : D} (h : Sh G (n + 3) 92 d) : ∃ x : TParcel, d = encTParcel x ∧ wfTParcel x := by
  obtain ⟨cs, rfl, _, d0, r0, h0, _, rfl, _, d1, r1, h1, _, rfl, _, d2, r2, h2, _, rfl, _, d3, r3, h3, _, rfl, rfl⟩ := h
  obtain ⟨x0, rfl, w0⟩ := sh3 (n := n + 1) h0
  obtain ⟨x1, rfl, w1⟩ := sh3 (n := n + 1) h1
  obtain ⟨x2, rfl, w2⟩ := sh28 (n := n + 0) h2
  obtain ⟨x3, rfl, w3⟩ := sh3 (n := n + 1) h3
  exact ⟨⟨x0, x1, x2, x3⟩, rfl, w0, w1, w2, w3⟩
theorem sh97 {n : Nat} {d : D} (h : Sh G (n + 2) 97 d) : ∃ x : THand, d = encTHand x ∧ wfTHand x := by
  obtain ⟨cs, rfl, _, d0, r0, h0, _, rfl, _, d1, r1, h1, _, rfl, _, d2, r2, h2, _, rfl, _, d3, r3, h3, _, rfl, _, d4, r4, h4, _, rfl, rfl⟩ := h
  obtain ⟨x0, rfl, w0⟩ := sh3 (n := n + 0) h0
  obtain ⟨x1, rfl, w1⟩ := sh3 (n := n + 0) h1
  obtain ⟨x2, rfl, w2⟩ := sh3 (n := n + 0) h2
  obtain ⟨x3, rfl, w3⟩ := sh3 (n := n + 0) h3
  obtain ⟨x4, rfl, w4⟩ := sh3 (n := n + 0) h4
  exact ⟨⟨x0, x1, x2, x3, x4⟩, rfl, w0, w1, w2, w3, w4⟩
theorem sh123 {n : Nat} {d : D} (h : Sh G (n + 2) 123 d) : ∃ x : List Int, d = encLI x ∧ wfLI x := by
  obtain ⟨xs, rfl, hm, hx⟩ := h
  obtain ⟨l, rfl, hl⟩ := Sh_list (Γ := G) (n := n + 1) (e := 3) (fun d hd => sh3 (n := n + 0) hd) hx
  exact ⟨l, rfl, by simpa using hm, hl⟩
theorem sh137 {n : Nat} {d : D} (h : Sh G (n + 3) 137 d) : ∃ x : TMeeting, d = encTMeeting x ∧ wfTMeeting x := by
  obtain ⟨cs, rfl, _, d0, r0, h0, _, rfl, rfl⟩ := h
  obtain ⟨x0, rfl, w0⟩ := sh49 (n := n + 0) h0
  exact ⟨⟨x0⟩, rfl, w0⟩
theorem sh138 {n : Nat} {d : D} (h : Sh G (n + 3) 138 d) : ∃ x : TMeeting, d = encTMeeting x ∧ wfTMeeting x := by
  obtain ⟨cs, rfl, _, d0, r0, h0, _, rfl, rfl⟩ := h
  obtain ⟨x0, rfl, w0⟩ := sh49 (n := n + 0) h0
  exact ⟨⟨x0⟩, rfl, w0⟩
theorem sh186 {n : Nat} {d : D} (h : Sh G (n + 1) 186 d) : ∃ x : Int, d = (fun n => .lit (.int .u64 n)) x ∧ inR .u64 x := h
theorem sh191 {n : Nat} {d : D} (h : Sh G (n + 3) 191 d) : ∃ x : TMeeting, d = encTMeeting x ∧ wfTMeeting x := by
  obtain ⟨cs, rfl, _, d0, r0, h0, _, rfl, rfl⟩ := h
  obtain ⟨x0, rfl, w0⟩ := sh49 (n := n + 0) h0
  exact ⟨⟨x0⟩, rfl, w0⟩
theorem sh192 {n : Nat} {d : D} (h : Sh G (n + 2) 192 d) : ∃ x : TWidening, d = encTWidening x ∧ wfTWidening x := by
  obtain ⟨cs, rfl, _, d0, r0, h0, _, rfl, rfl⟩ := h
  obtain ⟨x0, rfl, w0⟩ := sh3 (n := n + 0) h0
  exact ⟨⟨x0⟩, rfl, w0⟩
theorem sh193 {n : Nat} {d : D} (h : Sh G (n + 2) 193 d) : ∃ x : TWidening, d = encTWidening x ∧ wfTWidening x := by
  obtain ⟨cs, rfl, _, d0, r0, h0, _, rfl, rfl⟩ := h
  obtain ⟨x0, rfl, w0⟩ := sh3 (n := n + 0) h0
  exact ⟨⟨x0⟩, rfl, w0⟩
theorem sh200 {n : Nat} {d : D} (h : Sh G (n + 1) 200 d) : ∃ x : Int, d = dI x ∧ inR .i64 x := h
theorem sh207 {n : Nat} {d : D} (h : Sh G (n + 1) 207 d) : ∃ x : Int, d = (fun n => .lit (.int .u32 n)) x ∧ inR .u32 x := h
theorem sh209 {n : Nat} {d : D} (h : Sh G (n + 1) 209 d) : ∃ x : Int, d = (fun n => .lit (.int .u64 n)) x ∧ inR .u64 x := h
theorem sh211 {n : Nat} {d : D} (h : Sh G (n + 1) 211 d) : ∃ x : Int, d = (fun n => .lit (.int .u64 n)) x ∧ inR .u64 x := h
end Go.Proofs.Ytnghehfdclhfdaa
