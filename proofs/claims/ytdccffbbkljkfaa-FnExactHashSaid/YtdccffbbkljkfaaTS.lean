/- What a law is given, as typed data. -/
import Derived.Test.YtdccffbbkljkfaaTA
namespace Go.Proofs.Ytdccffbbkljkfaa
open Go Go.Eng
set_option linter.unusedSimpArgs false
set_option linter.unusedVariables false
theorem sh2 {n : Nat} {d : D} (h : Sh G (n + 1) 2 d) : ∃ x : Int, d = dI x ∧ inR .i64 x := h
theorem sh3 {n : Nat} {d : D} (h : Sh G (n + 1) 3 d) : ∃ x : Int, d = dI x ∧ inR .i64 x := h
theorem sh4 {n : Nat} {d : D} (h : Sh G (n + 1) 4 d) : ∃ x : Bool, d = dB x ∧ True := by
  obtain ⟨b, rfl⟩ := h
  exact ⟨b, rfl, trivial⟩
theorem sh5 {n : Nat} {d : D} (h : Sh G (n + 1) 5 d) : ∃ x : Int, d = dU x ∧ inR .u8 x := h
theorem sh9 {n : Nat} {d : D} (h : Sh G (n + 1) 9 d) : ∃ x : ByteArray, d = dS x ∧ x.size ≤ maxLen := h
theorem sh12 {n : Nat} {d : D} (h : Sh G (n + 1) 12 d) : ∃ x : Int, d = (fun n => .lit (.int .u64 n)) x ∧ inR .u64 x := h
theorem sh21 {n : Nat} {d : D} (h : Sh G (n + 1) 21 d) : ∃ x : Int, d = (fun n => .lit (.int .i32 n)) x ∧ inR .i32 x := h
theorem sh28 {n : Nat} {d : D} (h : Sh G (n + 2) 28 d) : ∃ x : List Int, d = encLU x ∧ wfLU x := by
  obtain ⟨xs, rfl, hm, hx⟩ := h
  obtain ⟨l, rfl, hl⟩ := Sh_list (Γ := G) (n := n + 1) (e := 5) (fun d hd => sh5 (n := n + 0) hd) hx
  exact ⟨l, rfl, by simpa using hm, hl⟩
theorem sh40 {n : Nat} {d : D} (h : Sh G (n + 2) 40 d) : ∃ x : List Int, d = encLI x ∧ wfLI x := by
  obtain ⟨xs, rfl, hm, hx⟩ := h
  obtain ⟨l, rfl, hl⟩ := Sh_list (Γ := G) (n := n + 1) (e := 3) (fun d hd => sh3 (n := n + 0) hd) hx
  exact ⟨l, rfl, by simpa using hm, hl⟩
theorem sh58 {n : Nat} {d : D} (h : Sh G (n + 2) 58 d) : ∃ x : TThing, d = encTThing x ∧ wfTThing x := by
  obtain ⟨cs, rfl, _, d0, r0, h0, _, rfl, _, d1, r1, h1, _, rfl, _, d2, r2, h2, _, rfl, _, d3, r3, h3, _, rfl, _, d4, r4, h4, _, rfl, rfl⟩ := h
  obtain ⟨x0, rfl, w0⟩ := sh3 (n := n + 0) h0
  obtain ⟨x1, rfl, w1⟩ := sh3 (n := n + 0) h1
  obtain ⟨x2, rfl, w2⟩ := sh3 (n := n + 0) h2
  obtain ⟨x3, rfl, w3⟩ := sh3 (n := n + 0) h3
  obtain ⟨x4, rfl, w4⟩ := sh3 (n := n + 0) h4
  exact ⟨⟨x0, x1, x2, x3, x4⟩, rfl, w0, w1, w2, w3, w4⟩
theorem sh59 {n : Nat} {d : D} (h : Sh G (n + 2) 59 d) : ∃ x : TThing, d = encTThing x ∧ wfTThing x := by
  obtain ⟨cs, rfl, _, d0, r0, h0, _, rfl, _, d1, r1, h1, _, rfl, _, d2, r2, h2, _, rfl, _, d3, r3, h3, _, rfl, _, d4, r4, h4, _, rfl, rfl⟩ := h
  obtain ⟨x0, rfl, w0⟩ := sh3 (n := n + 0) h0
  obtain ⟨x1, rfl, w1⟩ := sh3 (n := n + 0) h1
  obtain ⟨x2, rfl, w2⟩ := sh3 (n := n + 0) h2
  obtain ⟨x3, rfl, w3⟩ := sh3 (n := n + 0) h3
  obtain ⟨x4, rfl, w4⟩ := sh3 (n := n + 0) h4
  exact ⟨⟨x0, x1, x2, x3, x4⟩, rfl, w0, w1, w2, w3, w4⟩
theorem sh61 {n : Nat} {d : D} (h : Sh G (n + 2) 61 d) : ∃ x : TThing, d = encTThing x ∧ wfTThing x := by
  obtain ⟨cs, rfl, _, d0, r0, h0, _, rfl, _, d1, r1, h1, _, rfl, _, d2, r2, h2, _, rfl, _, d3, r3, h3, _, rfl, _, d4, r4, h4, _, rfl, rfl⟩ := h
  obtain ⟨x0, rfl, w0⟩ := sh3 (n := n + 0) h0
  obtain ⟨x1, rfl, w1⟩ := sh3 (n := n + 0) h1
  obtain ⟨x2, rfl, w2⟩ := sh3 (n := n + 0) h2
  obtain ⟨x3, rfl, w3⟩ := sh3 (n := n + 0) h3
  obtain ⟨x4, rfl, w4⟩ := sh3 (n := n + 0) h4
  exact ⟨⟨x0, x1, x2, x3, x4⟩, rfl, w0, w1, w2, w3, w4⟩
theorem sh67 {n : Nat} {d : D} (h : Sh G (n + 3) 67 d) : ∃ x : List TThing, d = encLTThing x ∧ wfLTThing x := by
  obtain ⟨xs, rfl, hm, hx⟩ := h
  obtain ⟨l, rfl, hl⟩ := Sh_list (Γ := G) (n := n + 2) (e := 59) (fun d hd => sh59 (n := n + 0) hd) hx
  exact ⟨l, rfl, by simpa using hm, hl⟩
theorem sh70 {n : Nat} {d : D} (h : Sh G (n + 3) 70 d) : ∃ x : List TThing, d = encLTThing x ∧ wfLTThing x := by
  obtain ⟨xs, rfl, hm, hx⟩ := h
  obtain ⟨l, rfl, hl⟩ := Sh_list (Γ := G) (n := n + 2) (e := 61) (fun d hd => sh61 (n := n + 0) hd) hx
  exact ⟨l, rfl, by simpa using hm, hl⟩
theorem sh74 {n : Nat} {d : D} (h : Sh G (n + 2) 74 d) : ∃ x : TSpan, d = encTSpan x ∧ wfTSpan x := by
  obtain ⟨cs, rfl, _, d0, r0, h0, _, rfl, _, d1, r1, h1, _, rfl, rfl⟩ := h
  obtain ⟨x0, rfl, w0⟩ := sh3 (n := n + 0) h0
  obtain ⟨x1, rfl, w1⟩ := sh3 (n := n + 0) h1
  exact ⟨⟨x0, x1⟩, rfl, w0, w1⟩
theorem sh75 {n : Nat} {d : D} (h : Sh G (n + 2) 75 d) : ∃ x : TSpan, d = encTSpan x ∧ wfTSpan x := by
  obtain ⟨cs, rfl, _, d0, r0, h0, _, rfl, _, d1, r1, h1, _, rfl, rfl⟩ := h
  obtain ⟨x0, rfl, w0⟩ := sh3 (n := n + 0) h0
  obtain ⟨x1, rfl, w1⟩ := sh3 (n := n + 0) h1
  exact ⟨⟨x0, x1⟩, rfl, w0, w1⟩
theorem sh77 {n : Nat} {d : D} (h : Sh G (n + 2) 77 d) : ∃ x : TSpan, d = encTSpan x ∧ wfTSpan x := by
  obtain ⟨cs, rfl, _, d0, r0, h0, _, rfl, _, d1, r1, h1, _, rfl, rfl⟩ := h
  obtain ⟨x0, rfl, w0⟩ := sh3 (n := n + 0) h0
  obtain ⟨x1, rfl, w1⟩ := sh3 (n := n + 0) h1
  exact ⟨⟨x0, x1⟩, rfl, w0, w1⟩
theorem sh89 {n : Nat} {d : D} (h : Sh G (n + 1) 89 d) : ∃ x : Int, d = (fun n => .lit (.int .u64 n)) x ∧ inR .u64 x := h
theorem sh96 {n : Nat} {d : D} (h : Sh G (n + 2) 96 d) : ∃ x : List ByteArray, d = encLS x ∧ wfLS x := by
  obtain ⟨xs, rfl, hm, hx⟩ := h
  obtain ⟨l, rfl, hl⟩ := Sh_list (Γ := G) (n := n + 1) (e := 9) (fun d hd => sh9 (n := n + 0) hd) hx
  exact ⟨l, rfl, by simpa using hm, hl⟩
theorem sh99 {n : Nat} {d : D} (h : Sh G (n + 3) 99 d) : ∃ x : TMeeting, d = encTMeeting x ∧ wfTMeeting x := by
  obtain ⟨cs, rfl, _, d0, r0, h0, _, rfl, rfl⟩ := h
  obtain ⟨x0, rfl, w0⟩ := sh77 (n := n + 0) h0
  exact ⟨⟨x0⟩, rfl, w0⟩
theorem sh100 {n : Nat} {d : D} (h : Sh G (n + 3) 100 d) : ∃ x : TMeeting, d = encTMeeting x ∧ wfTMeeting x := by
  obtain ⟨cs, rfl, _, d0, r0, h0, _, rfl, rfl⟩ := h
  obtain ⟨x0, rfl, w0⟩ := sh77 (n := n + 0) h0
  exact ⟨⟨x0⟩, rfl, w0⟩
theorem sh101 {n : Nat} {d : D} (h : Sh G (n + 3) 101 d) : ∃ x : TMeeting, d = encTMeeting x ∧ wfTMeeting x := by
  obtain ⟨cs, rfl, _, d0, r0, h0, _, rfl, rfl⟩ := h
  obtain ⟨x0, rfl, w0⟩ := sh77 (n := n + 0) h0
  exact ⟨⟨x0⟩, rfl, w0⟩
theorem sh102 {n : Nat} {d : D} (h : Sh G (n + 2) 102 d) : ∃ x : TWidening, d = encTWidening x ∧ wfTWidening x := by
  obtain ⟨cs, rfl, _, d0, r0, h0, _, rfl, rfl⟩ := h
  obtain ⟨x0, rfl, w0⟩ := sh3 (n := n + 0) h0
  exact ⟨⟨x0⟩, rfl, w0⟩
theorem sh103 {n : Nat} {d : D} (h : Sh G (n + 2) 103 d) : ∃ x : TWidening, d = encTWidening x ∧ wfTWidening x := by
  obtain ⟨cs, rfl, _, d0, r0, h0, _, rfl, rfl⟩ := h
  obtain ⟨x0, rfl, w0⟩ := sh3 (n := n + 0) h0
  exact ⟨⟨x0⟩, rfl, w0⟩
theorem sh105 {n : Nat} {d : D} (h : Sh G (n + 3) 105 d) : ∃ x : List (List Int), d = encLLI x ∧ wfLLI x := by
  obtain ⟨xs, rfl, hm, hx⟩ := h
  obtain ⟨l, rfl, hl⟩ := Sh_list (Γ := G) (n := n + 2) (e := 40) (fun d hd => sh40 (n := n + 0) hd) hx
  exact ⟨l, rfl, by simpa using hm, hl⟩
theorem sh119 {n : Nat} {d : D} (h : Sh G (n + 1) 119 d) : ∃ x : Int, d = (fun n => .lit (.int .u32 n)) x ∧ inR .u32 x := h
end Go.Proofs.Ytdccffbbkljkfaa
